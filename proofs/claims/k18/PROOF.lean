import PyProof.Rows.All
import Wide.All
import OpenK.AllK
import Wide.FinOn
import HandS.ForMost
import HandS.ForExc
import HandS.Lambda
import HandS.EndTab
import HandS.IsInst
import HandS.ExcIs
import HandS.Flow
import HandS.Conv
import HandS.Star
import HandS.AnyAll
import HandS.GenList
import KE.GoesNew
import KE.GoesMore
import HandS.Defaults
import HandS.WordsExc
import PyProof.FString
import PyProof.FString4
import KE.KFromBytes
import KE.KExcSuper
import HandS.Base
import HandS.Call
import HandS.Exc
import KE.KExcIs
import HandS.Head0
import HandS.Head1
import HandS.Head2
import HandS.HeadEnd
import HandS.HeadHook1
import HandS.HeadHook2
import HandS.HeadHook3
import HandS.HeadHook4
import HandS.HeadWalk
import HandS.NestedK
import PyProof.Draws
import PyProof.EnumMake
import HandS.TupAny
import HandS.Wide
import HandS.Comp
import HandS.Style
import HandS.Steps
import HandS.Rindex
import HandS.Replace
import PySem.Challenge.RW_onebase_k18_whole_the_first_wrong_cell
set_option Elab.async false
set_option linter.all false
set_option maxRecDepth 100000
set_option maxHeartbeats 2000000
namespace Kb
open PySem PySem.Spec PyProof.Rows L2
/-- an exception that was caught, held as a value -/
def ExV (cls : Value) (d : Option Addr) (a : Addr) : HO := .ext fun h => ∃ (oe : Obj) (vs : Array Value), h.get? a = some oe ∧ Zc cls d oe ∧ oe.data = .fields vs
theorem exV_ok {P : Program} {w : World} {H : Hp} {h : Heap} {a : Addr} {cls : Value} {d : Option Addr} {oe : Obj} {vs : Array Value} (e : h.get? a = some oe) (z : Zc cls d oe) (hd : oe.data = .fields vs) : ObjOk P w H h a (ExV cls d a) :=
  ⟨⟨oe, vs, e, z, hd⟩, ⟨oe, e⟩, fun _ _ ⟨o, v, q, r⟩ k => ⟨o, v, k o q, r⟩⟩
section
variable {X : Cx} {pins : List (Addr × Obj)} {σ : L2.St} {H : Hp} {s : Shared}
theorem track {a : Addr} {oe : Obj} {cls : Value} {d : Option Addr} {vs : Array Value} (I : Inv X ((a, oe) :: pins) σ H s) (n0 : X.s_0.heap.get? a = none) (hp : ∀ p ∈ X.pn ++ pins, p.1 ≠ a) (hz : Zc cls d oe) (hd : oe.data = .fields vs) :
    Inv X pins σ (upd H a (ExV cls d a)) s := by
  obtain ⟨ea, na, nL, nF, nc⟩ := I.pin (a, oe) (List.mem_append_right _ List.mem_cons_self)
  have ea : s.heap.get? a = some oe := ea
  have na : H a = none := na
  have ne0 : ∀ b o, X.s_0.heap.get? b = some o → b ≠ a := fun b o e z => by rw [z, n0] at e; cases e
  have neT : ∀ b u, H b = some u → b ≠ a := fun b u e z => by rw [z, na] at e; cases e
  refine ⟨I.ok, I.os, I.bare, ⟨I.base.keep, I.base.slot, fun b o e n hx => ?_, I.base.there, fun b xs e => ?_, fun b o u e => ?_, fun b ps e => ?_⟩, I.loc, I.cell, ?_, fun x c e => ?_, fun p hp' => ?_, fun b u e => ?_, I.len⟩
  · rw [upd_ne (ne0 b o e)]
    exact I.base.free b o e n hx
  · have q := I.base.tups b xs e
    rw [upd_ne (neT b _ q)]
    exact q
  · have q := I.base.frzs b o u e
    rw [upd_ne (neT b _ q)]
    exact q
  · obtain ⟨m, q⟩ := I.base.tbls b ps e
    exact ⟨m, by rw [upd_ne (neT b _ q)]; exact q⟩
  · rw [upd_ne (Ne.symm nL)]
    exact I.free
  · have hc : c ≠ a := fun z => by
      obtain ⟨v, o, ho, hv⟩ := I.cell x c e
      rw [z, ea] at ho
      cases ho
      exact nc v hv
    rw [upd_ne hc]
    exact I.freeC x c e
  · obtain ⟨h1, h2, h3, h4, h5⟩ := I.pin p (by
      rcases List.mem_append.mp hp' with z | z
      · exact List.mem_append_left _ z
      · exact List.mem_append_right _ (List.mem_cons_of_mem _ z))
    exact ⟨h1, by rw [upd_ne (hp p hp')]; exact h2, h3, h4, h5⟩
  · by_cases hb : b = a
    · rw [hb, upd_same] at e
      cases e
      rw [hb]
      exact exV_ok ea hz hd
    · rw [upd_ne hb] at e
      exact (I.hok b u e).stay (fun c v _ q => q) (fun c q => by rw [upd_ne (neT c _ q)]; exact q) fun c xs q => by rw [upd_ne (neT c _ q)]; exact q
end
/-- what 'except x as n' wishes of an exception of the body; behind the suite the exception stays known -/
def wKeep (K : PySem.W.Frag) (c : Value) (i : Nat) (ts : Addr → Value → Option Addr → TS) (Wout : WX) (D : Ends) : WX := fun cls d σ H =>
  ∃ b, PySem.W.exmOne K cls c = some b ∧ (b = true → ∀ a, H a = none → ts a cls d { nx := fun σ' H' => D.nx (σ'.set i none) (upd H' a (ExV cls d a)), rt := fun v H' => D.rt v (upd H' a (ExV cls d a)), bk := fun σ' H' => D.bk (σ'.set i none) (upd H' a (ExV cls d a)), ct := fun σ' H' => D.ct (σ'.set i none) (upd H' a (ExV cls d a)) } (σ.set i (some (.ref a))) H) ∧
    (b = false → Wout cls d σ H)
section
variable {X : Cx} {x n : Str} {c : Value} {i : Nat} {body suite : List Stmt} {b₀ : Stmt} {np pos pos' : Pos} {tb : WX → TS} {ts : Addr → Value → Option Addr → TS} {Wout : WX}
theorem ps_try_keep (hex : X.ex = []) (hs : X.stack = X.env :: X.outer) (hf : X.env.frame = some X.env.locals) (hN : X.N.Nodup) (hi : X.N[i]? = some n) (hln : X.env.kindOf n = some .local) (hc : Names X x c) (tk : Takes X Wout)
    (hb : ∀ (W : WX) (pn : List (Addr × Obj)) (xe : Value → Shared → Prop), Takes (X.tr pn xe) W → PassesOwn (model X.prog X.w) X.A X.env xe → PSs (X.tr pn xe) body (tb W))
    (hsu : ∀ (a : Addr) (oe : Obj) (cls : Value) (d : Option Addr) (pn : List (Addr × Obj)), Zc cls d oe → (∃ vs, oe.data = .fields vs) → PSs (X.suite a ((a, oe) :: pn)) (b₀ :: suite) (ts a cls d)) :
    PS X (.Try body [.ExceptHandler (some (.Name x np)) (some n) (b₀ :: suite) pos'] [] [] pos) (fun D σ H => tb (wKeep X.K c i ts Wout D) D σ H) := by
  refine ⟨fun pins s σ H D I h => ?_⟩
  have ok := I.ok
  have hfr : X.A.frames = some (X.env :: X.outer) := by rw [ok.frames, hs]
  have hloc : Loc X.env.scope n := .inl hln
  refine wpAny_Try_except ?_
  refine wpAny_mono ((hb (wKeep X.K c i ts Wout D) (X.pn ++ pins) (fun e s₁ => wpAny (model X.prog X.w) X.A (noteFrame e X.env) (fun _ s₂ => wpAny (model X.prog X.w) X.A (setFlight e none) (fun _ s₃ =>
    wpAny (model X.prog X.w) X.A (handleBy e X.env [.ExceptHandler (some (.Name x np)) (some n) (b₀ :: suite) pos']) (SP X pins D) X.xe s₃) X.xe s₂) X.xe s₁) (fun u s' xx => ?_) PassesOwn.looking).run [] s σ H D (I.toTry _) h) (fun f s1 hsp => ?_) (fun e s1 he => he)
  · -- the catch
    obtain ⟨a, B, sI, pins', σ', H', cls, d, rfl, J', nb, up, sky, na, os, ag, b, hb1, hyes, hno⟩ := xx
    have J : Inv X pins σ' H' sI := J'.ofTry ok
    have sky' : Sky B (X.env :: X.outer) a (Zc cls d) X.env.locals s'.heap := by rw [← hs]; exact sky
    show wpAny (model X.prog X.w) X.A (noteFrame (.ref a) X.env) _ _ _
    refine Sky.land Zc.steady hfr hf sky' fun h3 fl3 up3 => ?_
    have J3 : Inv X pins σ' H' { s' with heap := h3 } := J.landed nb fl3.1 (up.trans up3) os ag
    obtain ⟨oe3, vs3, he3, hz3, hd3⟩ := fl3.there
    have notFr : ∀ {h : Heap} {o : Obj} {vs : Array Value}, h.FunFrames B (X.env :: X.outer) → h.get? a = some o → o.data = .fields vs → a ∉ frs (X.env :: X.outer) := fun {h o vs} ff e dd hm => by
      obtain ⟨_, o', e', hnf⟩ := ff.mem hm
      rw [e] at e'; cases e'
      exact hnf _ dd
    have nfr := notFr fl3.2.2.1 he3 hd3
    have nL : a ≠ X.env.locals := fun z => nfr (List.mem_filterMap.mpr ⟨X.env, List.mem_cons_self, by rw [hf, z]⟩)
    have nF : a ∉ X.fs := fun hm => by
      obtain ⟨e, he, q⟩ := List.mem_filterMap.mp hm
      exact nfr (List.mem_filterMap.mpr ⟨e, List.mem_cons_of_mem _ he, q⟩)
    have nI : sI.heap.get? a = none := by
      cases q : sI.heap.get? a with
      | none => rfl
      | some o =>
        have z := nb a o q (by rw [hs]; exact nfr)
        rw [fl3.2.1] at z
        cases z
    have n0 : X.s_0.heap.get? a = none := by
      cases q : X.s_0.heap.get? a with
      | none => rfl
      | some o =>
        obtain ⟨o', z⟩ := J.base.there a o q (by rw [hex]; exact fun z => nomatch z)
        rw [nI] at z
        cases z
    have hpn : ∀ p ∈ X.pn ++ pins, p.1 ≠ a := fun p hp z => by
      have q := (J.pin p hp).1
      rw [z, nI] at q
      cases q
    have S3 := J3.suite he3 hd3 na nL nF
    refine wpAny_handleBy_cons (codeAny_handlers_test ?_) (by intro q; cases q)
    have LT : PySem.W.Looks (model X.prog X.w) h3 (typeOf (.ref a)) cls := fun A Q E s k q => wpAny_typeOf_ref (k _ _ he3) (by rw [hz3.1]; exact q)
    have LM := PySem.W.exm_one (M := model X.prog X.w) (J3.kIn) LT hb1
    have test : ∀ {Q : Value → Shared → Prop} {E : Value → Shared → Prop}, Q c { s' with heap := h3 } → wpAny (model X.prog X.w) (X.A.mark (some (.ref a))) (eval (.Name x np) X.env) Q E { s' with heap := h3 } := fun {Q E} q => by
      obtain ⟨hg, hdbg, hm | ⟨hm, hv, hnn⟩⟩ := hc
      · exact ld_glob (X := X.suite a ((a, oe3) :: (X.pn ++ pins))) S3 hg hm q hdbg
      · exact ld_blt (X := X.suite a ((a, oe3) :: (X.pn ++ pins))) S3 hg hm hv q hnn hdbg
    refine test (LM.here ?_)
    cases b with
    | true =>
      refine codeAny_handlers_suite_as ?_
      refine HandSPX.lands_againZ fl3 fun h4 fl4 up4 => ?_
      have J4 : Inv X pins σ' H' { s' with heap := h4 } := J.landed nb fl4.1 ((up.trans up3).trans up4) os ag
      obtain ⟨oe4, vs4, he4, hz4, hd4⟩ := fl4.there
      have S4 := J4.suite he4 hd4 na nL nF
      refine store_ok (X := X.suite a ((a, oe4) :: (X.pn ++ pins))) (v := .ref a) S4 hN hi hloc rfl (fun s5 S5 => ?_) (.inr hln)
      refine wpAny_mono ((hsu a oe4 cls d (X.pn ++ pins) hz4 ⟨_, hd4⟩).run [] s5 _ H' _ S5 (hyes rfl a na)) (fun f s6 hsp => ?_) (fun _ _ z => False.elim z)
      have end_ : ∀ {σ6 : L2.St} {H6 : Hp} {Q : Shared → Prop}, Inv (X.suite a ((a, oe4) :: (X.pn ++ pins))) [] σ6 H6 s6 → (∀ s7, Inv X pins (σ6.set i none) (upd H6 a (ExV cls d a)) s7 → Q s7) →
          wpAny (model X.prog X.w) X.A (do bindName X.env n .none; unbindBehindTheSuite X.env n pos') (fun _ s7 => Q s7) X.xe s6 := fun {σ6 H6 Q} S6 hq => by
        have T6 : Inv X ((a, oe4) :: pins) σ6 H6 s6 := (S6.unsuite ok).pins_of fun p hp => by
          rcases List.mem_cons.mp hp with z | z
          · rw [z]
            exact S6.pin (a, oe4) (List.mem_append_left _ List.mem_cons_self)
          · exact S6.pin p (List.mem_append_left _ (List.mem_cons_of_mem _ (List.mem_append_right _ z)))
        exact gone_ok T6 hN hi hln fun s7 J7 => hq s7 (track J7 n0 hpn hz4 hd4)
      cases f with
      | next =>
        obtain ⟨σ6, H6, S6, q6⟩ := hsp
        exact end_ S6 fun s7 J7 => ⟨_, _, J7, q6⟩
      | brk =>
        obtain ⟨σ6, H6, S6, q6⟩ := hsp
        exact end_ S6 fun s7 J7 => ⟨_, _, J7, q6⟩
      | cont =>
        obtain ⟨σ6, H6, S6, q6⟩ := hsp
        exact end_ S6 fun s7 J7 => ⟨_, _, J7, q6⟩
      | ret u =>
        obtain ⟨v6, σ6, H6, S6, r6, q6⟩ := hsp
        exact end_ S6 fun s7 J7 => ⟨_, _, _, J7, r6, q6⟩
    | false =>
      show wpAny _ X.A (handleBy (.ref a) X.env []) _ _ _
      refine wpAny_handleBy_nil ?_
      obtain ⟨k1, k2, k3, oe, vs, T, oT, ts', he, hz, hd, h1, hr⟩ := id fl3
      unfold PySem.passOn
      refine wpAny_bind (wpAny_field he hd h1 ?_)
      rw [if_neg (show ¬ ((Value.ref T == Value.none) = true) from by simp)]
      have fin : wpAny (model X.prog X.w) X.A (setFlight (.ref a) X.env.frame) (fun _ s4 => wpAny (model X.prog X.w) X.A (throw (.ref a) : Sem Flow) (SP X pins D) X.xe s4) X.xe { s' with heap := h3 } := by
        rw [hf]
        refine HandSPX.setFlight_upZ fl3 fun h4 hh4 up4 => wpAny_throw (tk _ _ ?_)
        exact ⟨a, B, sI, pins, σ', H', cls, d, rfl, J, nb, (up.trans up3).trans up4, .inr (.inr (by rw [hs]; exact hh4)), na, os, ag, hno rfl⟩
      first
        | exact wpAny_bind (wpAny_pure (wpAny_bind fin))
        | exact wpAny_bind fin
  · cases f with
    | next =>
      obtain ⟨σ', H', J', q⟩ := hsp
      exact wpAny_execs_nil ⟨σ', H', J'.ofTry ok, q⟩
    | brk =>
      obtain ⟨σ', H', J', q⟩ := hsp
      exact ⟨σ', H', J'.ofTry ok, q⟩
    | cont =>
      obtain ⟨σ', H', J', q⟩ := hsp
      exact ⟨σ', H', J'.ofTry ok, q⟩
    | ret u =>
      obtain ⟨v, σ', H', J', r, q⟩ := hsp
      exact ⟨v, σ', H', J'.ofTry ok, r, q⟩
end
/-- isinstance(e, c), e an exception held as a value -/
def rIsV (K : PySem.W.Frag) : List V → Hp → VK → Prop := fun xs H Q => ∃ (a D : Addr) (c : V) (cv : Value) (b : Bool), xs = [.ref a, c] ∧ H a = some (ExV (.ref D) none a) ∧ ExcC K D ∧ (∀ u, RelV c u → u = cv) ∧ PySem.W.kitOne K (.ref D) cv = some b ∧ Q (.bl b) H
theorem call_isV {X : Cx} : CallR X (.builtin "isinstance") (rIsV X.K) := by
  intro pins s σ H xs us Q I r h
  obtain ⟨a, D, c, cv, b, rfl, ha, C, hcv, e, q⟩ := h
  cases r with
  | cons rx rr =>
    cases rr with
    | cons rt rr =>
      cases rr
      cases rx
      have ec := hcv _ rt
      subst ec
      obtain ⟨⟨oe, vs, hget, hz, hv⟩, _, _⟩ := I.hok a _ ha
      have J : PySem.W.InstAt s.heap a oe D none := by
        obtain ⟨oc, od, oda, osl⟩ := oe
        obtain ⟨h1, h2⟩ := hz
        dsimp only at h1 h2 hv
        subst h1 h2 hv
        exact ⟨hget, rfl, rfl, trivial⟩
      exact PySem.W.kia_one (PySem.W.handS_kitx_exc C.hg C.hk C.hs C.hd C.ha C.hn C.ht C.hm) I.kIn J e (fun z => nomatch z) fun tk => ⟨.bl b, H, I.kept (t' := tk) fun _ _ z => z, rfl, q⟩
end Kb
set_option Elab.async false
set_option linter.all false
set_option maxRecDepth 100000
set_option maxHeartbeats 2000000
namespace Kb
open PySem PySem.Spec PyProof.Rows L2 GenW
/-! ### all, any of a generator expression, its element read over the layer -/
/-- the generator expression's own names; captured names that the def has; its own are no names of the def -/
structure GenOk (N : List Str) (sc scope : Scope) (own : List Str) : Prop where
  kind : scope.kind = .function
  co : scope.isCoroutine = false
  cell : ∀ y ∈ scope.names, y.2 ≠ .cell
  dot : scope.names.lookup (".0" : Str) = some NameKind.local
  free : ∀ y ∈ scope.names, y.2 = .free → sc.names.lookup y.1 = some .cell ∨ sc.names.lookup y.1 = some .free
  out : ∀ y ∈ scope.names, y.2 = .local → y.1 ∉ N
  nd : (N ++ own).Nodup
def genB (N : List Str) (sc scope : Scope) (own : List Str) : Bool :=
  decide (scope.kind = .function) && !scope.isCoroutine && decide (scope.names.lookup (".0" : Str) = some NameKind.local) && decide ((N ++ own).Nodup) &&
    scope.names.all fun y => !decide (y.2 = .cell) && (!decide (y.2 = .free) || decide (sc.names.lookup y.1 = some .cell) || decide (sc.names.lookup y.1 = some .free)) && (!decide (y.2 = .local) || decide (y.1 ∉ N))
theorem genOk_by {N : List Str} {sc scope : Scope} {own : List Str} (h : genB N sc scope own = true) : GenOk N sc scope own := by
  unfold genB at h
  simp only [Bool.and_eq_true, Bool.or_eq_true, Bool.not_eq_true', decide_eq_true_eq, decide_eq_false_iff_not, List.all_eq_true] at h
  obtain ⟨⟨⟨⟨h1, h2⟩, h3⟩, h4⟩, h5⟩ := h
  refine ⟨h1, h2, fun y hy => (h5 y hy).1.1, h3, fun y hy e => ?_, fun y hy e => ?_, h4⟩
  · rcases (h5 y hy).1.2 with (z | z) | z
    · exact absurd e z
    · exact .inl z
    · exact .inr z
  · rcases (h5 y hy).2 with z | z
    · exact absurd e z
    · exact z
/-- the context of its frame -/
abbrev gcx (X : Cx) (s : Shared) (H : Hp) (scope : Scope) (C : Addr) (code : Value) (bi : Addr) (own : List Str) (fp : List Addr) : Cx :=
  { X with A := X.A.in1.in1.deeper (genEnv scope (cloFrom X.env.cells scope.names []) C code bi X.env), N := X.N ++ own, s_0 := s, H_0 := H, env := genEnv scope (cloFrom X.env.cells scope.names []) C code bi X.env, outer := X.stack, stack := genEnv scope (cloFrom X.env.cells scope.names []) C code bi X.env :: X.stack, ex := fp, fn := fun _ => false, calm := true, pn := [], xe := fun _ _ => False }
structure Woken (s s' : Shared) : Prop where
  heap : s'.heap = s.heap
  os : s'.os = s.os
  bare : AllBare s'.gens
section
variable {X : Cx} {pins : List (Addr × Obj)} {σ : L2.St} {H : Hp} {s s' : Shared}
theorem inv_woken (I : Inv X pins σ H s) (z : Woken s s') : Inv X pins σ H s' := by
  obtain ⟨h, g, d, t, o⟩ := s'
  obtain ⟨z1, z2, z3⟩ := z
  dsimp only at z1 z2
  subst z1 z2
  exact ⟨I.ok, I.os, z3, I.base, I.loc, I.cell, I.free, I.freeC, I.pin, I.hok, I.len⟩
theorem Inv.nb (I : Inv X pins σ H s) : ∀ p ∈ X.pn ++ pins, p.1 < s.heap.objs.size := fun p hp => Heap.lt_size (I.pin p hp).1
/-- the generator's frame is made: its context begins -/
theorem gen_start {scope : Scope} {own : List Str} {fp : List Addr} {code : Value} {it : Addr} {h' : Heap} {go : Obj} {gs : Array GenState} {tk : Nat} (hc : X.calm = true) (I : Inv X pins σ H s) (ok : GenOk X.N X.env.scope scope own) (hfp : ∀ b ∈ fp, FpOk X pins H b ∧ b < s.heap.objs.size)
    (hn : h'.Ns s.heap.objs.size (fun y => if y = ".0" then some (.ref it) else none)) (hk : ∀ b o, s.heap.get? b = some o → h'.get? b = some o) (hsz : h'.objs.size = s.heap.objs.size + 1) (hb : AllBare gs) (hgd : ∀ v, go.data ≠ .cell v) (hgf : go.isFreed = false) :
    Inv (gcx X s H scope s.heap.objs.size code builtinsNs own fp) [(h'.objs.size, go)] (σ ++ List.replicate own.length none) H { s with gens := gs, toks := tk, heap := h'.push go } := by
  have hfree : ∀ y ∈ scope.names, y.2 = .free → ∃ c, X.env.cells.lookup y.1 = some c := fun y hy e => by
    rcases ok.free y hy e with k | k
    · exact I.ok.has _ (.inl k)
    · exact I.ok.has _ (.inr k)
  have cm : ∀ {y c}, (cloFrom X.env.cells scope.names []).lookup y = some c → X.env.cells.lookup y = some c := fun {y c} e => by
    rcases cloFrom_mem (PySem.mem_of_lookup e) with hm | ⟨h1, h2⟩
    · cases hm
    · obtain ⟨c1, hc⟩ := hfree _ h1 rfl
      have hc : X.env.cells.lookup y = some c1 := hc
      have e2 : c = c1 := by
        rw [h2, hc] <;> rfl
      rw [e2]
      exact hc
  have look : ∀ {y}, scope.names.lookup y = some .free → ∃ c, (cloFrom X.env.cells scope.names []).lookup y = some c := fun {y} hl => by
    have hy : (y, NameKind.free) ∈ scope.names := PySem.mem_of_lookup hl
    exact mem_lookup (cloFrom_has (cells := X.env.cells) (acc := []) hy)
  have clt : ∀ {y c}, X.env.cells.lookup y = some c → c < s.heap.objs.size := fun {y c} e => let ⟨v, z⟩ := I.cell y c e; z.lt
  have kp : ∀ b o, s.heap.get? b = some o → (h'.push go).get? b = some o := fun b o e => Heap.get?_push_of_some _ (hk b o e)
  have cellK : ∀ {c : Addr} {v : Option Value}, s.heap.IsCell c v → (h'.push go).IsCell c v := fun {c v} ⟨o, ho, hd⟩ => ⟨o, kp _ _ ho, hd⟩
  have frL : ∀ b ∈ frs X.stack, b < s.heap.objs.size := fun b hb => by
    obtain ⟨_, o, ho, _⟩ := I.stack.mem hb
    exact Heap.lt_size ho
  refine ⟨⟨I.ok.mod, ok.kind, I.ok.glob, rfl, Nat.le_refl _, fun y z c e1 e2 => I.ok.inj y z c (cm e1) (cm e2), fun y hy => ?_, fun y c z _ => ?_, fun _ => I.ok.hd hc, Around.frames_deeper I.ok.frames, .inr ⟨rfl, rfl⟩, fun b hb => ⟨?_, fun y c e z => ?_⟩, I.bs, Nat.le_trans I.ok.bsz I.sz, fun b o e hb => ?_, fun b hb z => ?_, I.stack, I.stkFree⟩,
    rfl, hb, Un.kept kp, ⟨_, hn.push _, fun i y v e1 e2 e3 => ?_⟩, fun y c e => ?_, I.hok.fresh (Nat.le_refl _), fun y c e => ?_, fun p hp => ?_, I.hok.kept kp, ?_⟩
  · have hy : scope.names.lookup y = some .cell ∨ scope.names.lookup y = some .free := hy
    rcases hy with hy | hy
    · exact absurd rfl (ok.cell _ (PySem.mem_of_lookup hy))
    · exact look hy
  · have z : false = true := z
    cases z
  · exact Nat.ne_of_lt (hfp b hb).2
  · have e : (cloFrom X.env.cells scope.names []).lookup y = some c := e
    exact (hfp b hb).1.2.2.2.2.1 y c (cm e) z
  · rcases (hfp b hb).1.2.2.2.1 with z | z
    · exact I.ok.noex b o e z
    · have h1 := Heap.lt_size e
      exact absurd (Nat.lt_of_lt_of_le (Nat.lt_of_lt_of_le h1 I.ok.bsz) z) (Nat.lt_irrefl _)
  · rcases List.mem_cons.mp (I.stkSub b z) with q | q
    · exact (hfp b hb).1.2.1 q
    · exact (hfp b hb).1.2.2.1 q
  · have e3 : Vis scope y := e3
    have lenσ := I.len
    have hi : i < σ.length := by
      by_cases hi : i < σ.length
      · exact hi
      · rw [List.getElem?_append_right (by omega), List.getElem?_replicate] at e2
        split at e2 <;> cases e2
    rw [List.getElem?_append_left hi] at e2
    have e1' : X.N[i]? = some y := by
      have q : (X.N ++ own)[i]? = some y := e1
      rw [List.getElem?_append_left (by omega)] at q
      exact q
    rcases e3 with k | k | k
    · exact absurd (List.mem_of_getElem? e1') (ok.out _ (PySem.mem_of_lookup k) rfl)
    · exact absurd rfl (ok.cell _ (PySem.mem_of_lookup k))
    · obtain ⟨m, hn0, hl⟩ := I.loc
      have hvis : Vis X.env.scope y := (ok.free _ (PySem.mem_of_lookup k) rfl).elim (fun k => .inr (.inl k)) (fun k => .inr (.inr k))
      obtain ⟨w', r, q⟩ := hl i y v e1' e2 hvis
      obtain ⟨c2, h2⟩ := look k
      refine ⟨w', r, .inr ⟨.inr k, c2, h2, ?_⟩⟩
      have c1 := cm h2
      rcases q with ⟨k', _⟩ | ⟨_, c3, e', z⟩
      · have k' : X.env.scope.names.lookup y = some .local := k'
        rcases ok.free _ (PySem.mem_of_lookup k) rfl with k2 | k2 <;> rw [show X.env.scope.names.lookup y = _ from k2] at k' <;> cases k'
      · rw [c1] at e'
        cases e'
        exact cellK z
  · obtain ⟨w', z⟩ := I.cell y c (cm e)
    exact ⟨w', cellK z⟩
  · exact I.freeC y c (cm e)
  · have hp : p = (h'.objs.size, go) := by
      have q : p ∈ ([] : List (Addr × Obj)) ++ [(h'.objs.size, go)] := hp
      simpa using q
    rw [hp]
    refine ⟨Heap.get?_push_size _ hgf, I.hok.fresh (by show s.heap.objs.size ≤ h'.objs.size; omega), ?_, fun hb => ?_, hgd⟩
    · show h'.objs.size ≠ s.heap.objs.size
      omega
    · have := frL _ hb
      have q : h'.objs.size < s.heap.objs.size := this
      omega
  · rw [List.length_append, List.length_append, I.len, List.length_replicate]
end
/-- where a generator expression under all (stopOn false) or any (true) hands out -/
def AY (Xg : Cx) (pins : List (Addr × Obj)) (σg : L2.St) (stopOn : Bool) (Qf : Hp → Prop) : Protocol := fun _ _ v s kap =>
  ∃ (H : Hp) (b : Bool), v = .bool b ∧ Inv Xg pins σg H s ∧ (b = stopOn → Qf H) ∧ (b = !stopOn → ∀ s', Woken s s' → kap (.send .none) s')
def AR (Xg : Cx) (pins : List (Addr × Obj)) (σg : L2.St) (Qe : Hp → Prop) : GenEnd := fun _ _ r s => ((r = .ok (.ret .none) ∨ r = .ok .next) ∧ ∃ H, Inv Xg pins σg H s ∧ Qe H) ∨ ∃ e, r = .error e ∧ False
theorem over_gen {A : Around} {elt tg iter : Expr} {scope : Scope} {pos : Pos} {it : Addr} {env : Env} : A.over (.compLoop (.GeneratorExp elt [⟨tg, iter, [], 0⟩] scope pos) 0 (.ref it) .none env) [] = A.deeper env := by
  first
    | rfl
    | (obtain ⟨hd, d, fr, gs, u⟩ := A; simp [Around.over, Around.deeper, marksOver, frameCount, unitsOf, envsOf, guardsOf, pushEnvs, pushGuards, Code.envs, Code.env?, Code.isFrame, Code.guards, Code.isGuard, Code.weight, Code.frames, Code.isCreation, Code.isCaller, Code.cUnits])
/-- what is asked of the turns -/
def Turns (J : It) (g : TG) (te : TE) (σg : L2.St) (n : Nat) (stopOn : Bool) (Qe Qf : Hp → Prop) (W : Nat → Nat → Hp → Prop) : Prop := ∀ i m H, W i m H →
  (J.stop i H ∧ Qe H) ∨ (J.go i H ∧ ∀ x H', J.yld i H x H' → g x σg H' fun σ2 H2 => σ2.take n = σg.take n ∧ te σ2 H2 fun y H3 => ∃ b, y = .bl b ∧ (b = stopOn → Qf H3) ∧ (b = !stopOn → ∃ m', m' < m ∧ W (i + 1) m' H3))
section
variable {Xg : Cx} {pins : List (Addr × Obj)} {σg : L2.St} {A0 : Around} {elt tg iter : Expr} {scope : Scope} {pos : Pos} {it : Addr} {fp : List Addr} {tn : Nat → Heap → Prop} {J : It} {g : TG} {te : TE} {stopOn : Bool} {Qe Qf : Hp → Prop} {W : Nat → Nat → Hp → Prop} {k : Nat}
theorem seg_all (hA : A0.over (.compLoop (.GeneratorExp elt [⟨tg, iter, [], 0⟩] scope pos) 0 (.ref it) .none Xg.env) [] = Xg.A) (hxe : Xg.xe = fun _ _ => False) (hpn : Xg.pn = []) (hex : Xg.ex = fp) (hc : Xg.calm = true) (hco : Xg.env.scope.isCoroutine = false)
    (T : Turn Xg.prog Xg.w Xg.K tg J fp it tn) (pg : PG Xg tg g) (pe : PE Xg elt te) (hpf : ∀ b ∈ fp, ∀ p ∈ pins, p.1 ≠ b) (hσ : σg = σg.take k ++ List.replicate (σg.length - k) none) (turn : Turns J g te σg k stopOn Qe Qf W) :
    ∀ (m n i : Nat) (s₀ s : Shared) (H : Hp), m < n → W i m H → Inv Xg pins σg H s → tn i s.heap → (∀ b ∈ fp, H b = none) →
      Seg (model Xg.prog Xg.w) A0 (AR Xg pins σg Qe) (AY Xg pins σg stopOn Qf) n s₀ (.compLoop (.GeneratorExp elt [⟨tg, iter, [], 0⟩] scope pos) 0 (.ref it) .none Xg.env)
        ((model Xg.prog Xg.w).den (.compLoop (.GeneratorExp elt [⟨tg, iter, [], 0⟩] scope pos) 0 (.ref it) .none Xg.env)) [] s := by
  have stat : ∀ {σ' : L2.St} {H' : Hp} {s' : Shared}, Inv Xg pins σ' H' s' → (∀ b ∈ fp, H' b = none) → ∀ b ∈ fp, FpOk Xg pins H' b := fun {σ' H' s'} I' hn b hb =>
    ⟨hn b hb, (I'.ok.exf b (by rw [hex]; exact hb)).1, I'.ok.exfs b (by rw [hex]; exact hb), .inl (by rw [hex]; exact hb), fun x c e => (I'.ok.exf b (by rw [hex]; exact hb)).2 x c e, fun p hp => hpf b hb p (by rw [hpn] at hp; exact hp)⟩
  intro m
  induction m using Nat.strongRecOn with
  | ind m ih =>
    intro n i s₀ s H hmn w I st hn
    show Seg _ A0 _ _ _ s₀ _ ((compTurn (.GeneratorExp elt [⟨tg, iter, [], 0⟩] scope pos) 0 (.ref it) .none Xg.env).onRaise (leaving Xg.env)) [] s
    rw [compTurn_gen, Sem.onRaise_eq_wrap]
    refine seg_bind_wrap (wpAny_standAt ?_)
    refine seg_bind_wrap ?_
    rw [hA]
    rcases turn i m H w with ⟨stop, qq⟩ | ⟨go, step⟩
    · refine wpAny_mono (T.done Xg rfl rfl rfl hc i pins s _ H (fun _ _ => False) I (stat I hn) st stop) (fun r s6 h6 => ?_) (fun _ _ z => z.elim)
      obtain ⟨hr, I6⟩ := h6
      subst hr
      exact seg_end (.ok .next) (.inl ⟨.inr rfl, H, I6, qq⟩)
    · refine wpAny_mono (T.item Xg rfl rfl rfl hc i pins s _ H (fun _ _ => False) I (stat I hn) st go) (fun r s6 h6 => ?_) (fun _ _ z => z.elim)
      obtain ⟨u, hr, h6⟩ := h6
      subst hr
      refine seg_bind_wrap ?_
      rw [hA]
      refine wpAny_mono h6 (fun _ s7 h7 => ?_) (fun _ _ z => z.elim)
      obtain ⟨x, H7, I7, r7, y7, st7, n7⟩ := h7
      have I7' := I7.pinned (stat I7 n7) (T.obj _ _ st7)
      refine seg_bind_wrap ?_
      rw [hA]
      refine wpAny_mono (pg.run _ s7 _ H7 x u _ I7' r7 (step x H7 y7)) (fun _ s8 h8 => ?_) (fun _ _ z => by rw [hxe] at z; exact z.elim)
      obtain ⟨σ8, H8, I8, hw8, q8⟩ := h8
      refine seg_bind_wrap (wpAny_pure ?_)
      simp only [List.forIn_nil, if_true]
      have hy : ∀ v, yieldOut Xg.env v = yieldValue v := fun v => by simp only [yieldOut, hco, Bool.false_eq_true, if_false]
      simp only [hy]
      rw [Sem.bind_eq_wrap', Sem.bind_eq_wrap', Sem.wrap_wrap, Sem.wrap_wrap]
      refine seg_wrap ?_
      rw [hA]
      refine wpAny_mono (pe.run _ s8 σ8 H8 _ I8 q8) (fun z s10 h10 => ?_) (fun _ _ z => by rw [hxe] at z; exact z.elim)
      obtain ⟨yv, H10, I10, r10, b, eb, hf, ht⟩ := h10
      subst eb
      obtain rfl : z = Value.bool b := r10
      have pin' : ∀ b ∈ fp, ∀ o, s7.heap.get? b = some o → s10.heap.get? b = some o ∧ H10 b = none := fun b hb o e =>
        let z := I10.pin (b, o) (List.mem_append_right _ (List.mem_append_right _ (mem_pinsAt hb e)))
        ⟨z.1, z.2.1⟩
      have hl : σg.length = σ8.length := I.len.trans I8.len.symm
      have J10 : Inv Xg pins σg H10 s10 := (I10.unpinned (pins := pins)).weak hl (fun j v e => by
        rw [hσ] at e
        by_cases hj : j < (σg.take k).length
        · rw [List.getElem?_append_left hj] at e
          have e2 : (σ8.take k)[j]? = some (some v) := by rw [hw8]; exact e
          have hjk : j < k := by rw [List.length_take] at hj; omega
          rw [List.getElem?_take_of_lt hjk] at e2
          exact e2
        · rw [List.getElem?_append_right (by omega), List.getElem?_replicate] at e
          split at e <;> cases e)
      have n10 : ∀ b ∈ fp, H10 b = none := fun b hb => by
        obtain ⟨o, e, _⟩ := T.obj _ _ st7 b hb
        exact (pin' b hb o e).2
      have st10 : tn (i + 1) s10.heap := T.keep _ _ _ st7 fun b hb o e => (pin' b hb o e).1
      cases n with
      | zero => omega
      | succ n =>
        refine seg_at (seg_yield rfl rfl rfl ⟨H10, b, rfl, J10, hf, fun hb s'' z => ?_⟩)
        obtain ⟨m', hm, w'⟩ := ht hb
        refine seg_again rfl (ih m' hm n (i + 1) s'' s'' H10 (by omega) w' (inv_woken J10 z) (by rw [z.heap]; exact st10) n10)
end

section
variable {Xg : Cx} {pins : List (Addr × Obj)} {σg : L2.St} {A : Around} {Qe Qf : Hp → Prop} {a : Addr} {g : Nat} {R : Result → Shared → Prop}
theorem all_drain (hh : A.handled = none) (hd : A.depth < recursionLimit) (hgen : ∀ s : Shared, (∀ p ∈ pins, s.heap.get? p.1 = some p.2) → s.heap.IsGen a g)
    (hE : ∀ H s, Inv Xg pins σg H s → Qe H → R (.ok (.ret (.bool true))) s) (hF : ∀ H s, Inv Xg pins σg H s → Qf H → R (.ok (.ret (.bool false))) s) :
    ∀ (n : Nat) (s : Shared), s.heap.IsGen a g → s.heap.NoLimit → (∃ gs, s.gens[g]? = some gs ∧ gs.Goes (model Xg.prog Xg.w) A.in1.in1 (AR Xg pins σg Qe) (AY Xg pins σg false Qf) n (.send .none) (s.setGen g .running)) →
      codeAny (model Xg.prog Xg.w) A (.builtin "all.loop" ⟨[.ref a], []⟩) R s := by
  have pinned : ∀ {H : Hp} {s : Shared}, Inv Xg pins σg H s → s.heap.IsGen a g := fun {H s} I => hgen s fun p hp => (I.pin p (List.mem_append_right _ hp)).1
  have weakR : ∀ {gs : GenState} {B : Around} {n : Nat} {r : Resume} {s : Shared}, gs.Goes (model Xg.prog Xg.w) B (AR Xg pins σg Qe) (AY Xg pins σg false Qf) n r s →
      gs.Goes (model Xg.prog Xg.w) B (fun n s₀ r s1 => ((r = .ok (.ret .none) ∨ r = .ok .next) ∧ ∃ H, Inv Xg pins σg H s1 ∧ Qe H) ∨ ∃ e, r = .error e ∧ False) (AY Xg pins σg false Qf) n r s := fun {gs B n r s} h => h
  intro n
  induction n with
  | zero =>
    intro s hg hl ⟨gs, hgs, hgo⟩
    refine codeAny_builtin F.entry_all_loop ?_
    rw [Around.under_plainId F.plain_all_loop _]
    show wpAny _ A.in1 (pyNext (.ref a) >>= _) _ _ s
    refine wpAny_bind (next_genG (A := A.in1) hh hl hd hg hgs (weakR hgo) (fun v s₁ gs' hbare hv => ?_) (fun s₁ hp h' hk => ?_) fun e s₁ he => he.elim)
    · obtain ⟨H, b, rfl, I, q1, q2⟩ := hv
      have b0 : b = false := by
        cases b with
        | false => rfl
        | true => exact (q2 rfl s₁ ⟨rfl, rfl, I.bare⟩).elim
      subst b0
      refine wpAny_bind (wpAny_holding (wpAny_truthy_bool ?_))
      refine wpAny_bind (wpAny_letGo ?_)
      simp only [Bool.false_eq_true, if_false]
      refine wpAny_bind (wpAny_rule (wpAny_pure ?_))
      exact hF H _ (inv_woken I ⟨rfl, rfl, allBare_setGen I.bare hbare⟩) (q1 rfl)
    · obtain ⟨H, I, q⟩ := hp
      refine wpAny_bind (wpAny_rule (wpAny_pure ?_))
      have J : Inv Xg pins σg H { s₁ with heap := h' } := I.kept (t' := s₁.toks) hk
      exact hE H _ (inv_woken J ⟨rfl, rfl, allBare_setGen (s := s₁) I.bare rfl⟩) q
  | succ n ih =>
    intro s hg hl ⟨gs, hgs, hgo⟩
    have hgl : g < s.gens.size := (Array.getElem?_eq_some_iff.mp hgs).1
    refine codeAny_builtin F.entry_all_loop ?_
    rw [Around.under_plainId F.plain_all_loop _]
    show wpAny _ A.in1 (pyNext (.ref a) >>= _) _ _ s
    refine wpAny_bind (wpAny_gsz (n := g + 1) hgl (next_genG (A := A.in1) hh hl hd hg hgs (weakR hgo) (fun v s₁ gs' hbare hv => ?_) (fun s₁ hp h' hk => ?_) fun e s₁ he => he.elim))
    · intro hsz
      have hsz1 : g < s₁.gens.size := by
        have q : (s₁.setGen g gs').gens.size = s₁.gens.size := setGen_size _ _ _
        have hsz' : g + 1 ≤ (s₁.setGen g gs').gens.size := hsz
        omega
      obtain ⟨H, b, rfl, I, q1, q2⟩ := hv
      refine wpAny_bind (wpAny_holding (wpAny_truthy_bool ?_))
      refine wpAny_bind (wpAny_letGo ?_)
      have hb1 : AllBare (s₁.setGen g gs').gens := allBare_setGen I.bare hbare
      cases b with
      | false =>
        simp only [Bool.false_eq_true, if_false]
        refine wpAny_bind (wpAny_rule (wpAny_pure ?_))
        exact hF H _ (inv_woken I ⟨rfl, rfl, hb1⟩) (q1 rfl)
      | true =>
        simp only [if_true]
        have J : Inv Xg pins σg H (s₁.setGen g gs') := inv_woken I ⟨rfl, rfl, hb1⟩
        refine wpAny_pure ⟨plainId_quiet F.plain_all_loop _, ih (s₁.setGen g gs') (pinned J) J.nolimit ⟨gs', setGen_at hsz1, ?_⟩⟩
        have z := q2 rfl ((s₁.setGen g gs').setGen g .running) ⟨rfl, rfl, allBare_setGen hb1 rfl⟩
        exact z
    · intro hsz
      obtain ⟨H, I, q⟩ := hp
      refine wpAny_bind (wpAny_rule (wpAny_pure ?_))
      have J : Inv Xg pins σg H { s₁ with heap := h' } := I.kept (t' := s₁.toks) hk
      exact hE H _ (inv_woken J ⟨rfl, rfl, allBare_setGen (s := s₁) I.bare rfl⟩) q
theorem any_drain (hh : A.handled = none) (hd : A.depth < recursionLimit) (hgen : ∀ s : Shared, (∀ p ∈ pins, s.heap.get? p.1 = some p.2) → s.heap.IsGen a g)
    (hE : ∀ H s, Inv Xg pins σg H s → Qe H → R (.ok (.ret (.bool false))) s) (hF : ∀ H s, Inv Xg pins σg H s → Qf H → R (.ok (.ret (.bool true))) s) :
    ∀ (n : Nat) (s : Shared), s.heap.IsGen a g → s.heap.NoLimit → (∃ gs, s.gens[g]? = some gs ∧ gs.Goes (model Xg.prog Xg.w) A.in1.in1 (AR Xg pins σg Qe) (AY Xg pins σg true Qf) n (.send .none) (s.setGen g .running)) →
      codeAny (model Xg.prog Xg.w) A (.builtin "any.loop" ⟨[.ref a], []⟩) R s := by
  have pinned : ∀ {H : Hp} {s : Shared}, Inv Xg pins σg H s → s.heap.IsGen a g := fun {H s} I => hgen s fun p hp => (I.pin p (List.mem_append_right _ hp)).1
  have weakR : ∀ {gs : GenState} {B : Around} {n : Nat} {r : Resume} {s : Shared}, gs.Goes (model Xg.prog Xg.w) B (AR Xg pins σg Qe) (AY Xg pins σg true Qf) n r s →
      gs.Goes (model Xg.prog Xg.w) B (fun n s₀ r s1 => ((r = .ok (.ret .none) ∨ r = .ok .next) ∧ ∃ H, Inv Xg pins σg H s1 ∧ Qe H) ∨ ∃ e, r = .error e ∧ False) (AY Xg pins σg true Qf) n r s := fun {gs B n r s} h => h
  intro n
  induction n with
  | zero =>
    intro s hg hl ⟨gs, hgs, hgo⟩
    refine codeAny_builtin F.entry_any_loop ?_
    rw [Around.under_plainId F.plain_any_loop _]
    show wpAny _ A.in1 (pyNext (.ref a) >>= _) _ _ s
    refine wpAny_bind (next_genG (A := A.in1) hh hl hd hg hgs (weakR hgo) (fun v s₁ gs' hbare hv => ?_) (fun s₁ hp h' hk => ?_) fun e s₁ he => he.elim)
    · obtain ⟨H, b, rfl, I, q1, q2⟩ := hv
      have b0 : b = true := by
        cases b with
        | true => rfl
        | false => exact (q2 rfl s₁ ⟨rfl, rfl, I.bare⟩).elim
      subst b0
      refine wpAny_bind (wpAny_holding (wpAny_truthy_bool ?_))
      refine wpAny_bind (wpAny_letGo ?_)
      simp only [if_true]
      refine wpAny_bind (wpAny_rule (wpAny_pure ?_))
      exact hF H _ (inv_woken I ⟨rfl, rfl, allBare_setGen I.bare hbare⟩) (q1 rfl)
    · obtain ⟨H, I, q⟩ := hp
      refine wpAny_bind (wpAny_rule (wpAny_pure ?_))
      have J : Inv Xg pins σg H { s₁ with heap := h' } := I.kept (t' := s₁.toks) hk
      exact hE H _ (inv_woken J ⟨rfl, rfl, allBare_setGen (s := s₁) I.bare rfl⟩) q
  | succ n ih =>
    intro s hg hl ⟨gs, hgs, hgo⟩
    have hgl : g < s.gens.size := (Array.getElem?_eq_some_iff.mp hgs).1
    refine codeAny_builtin F.entry_any_loop ?_
    rw [Around.under_plainId F.plain_any_loop _]
    show wpAny _ A.in1 (pyNext (.ref a) >>= _) _ _ s
    refine wpAny_bind (wpAny_gsz (n := g + 1) hgl (next_genG (A := A.in1) hh hl hd hg hgs (weakR hgo) (fun v s₁ gs' hbare hv => ?_) (fun s₁ hp h' hk => ?_) fun e s₁ he => he.elim))
    · intro hsz
      have hsz1 : g < s₁.gens.size := by
        have q : (s₁.setGen g gs').gens.size = s₁.gens.size := setGen_size _ _ _
        have hsz' : g + 1 ≤ (s₁.setGen g gs').gens.size := hsz
        omega
      obtain ⟨H, b, rfl, I, q1, q2⟩ := hv
      refine wpAny_bind (wpAny_holding (wpAny_truthy_bool ?_))
      refine wpAny_bind (wpAny_letGo ?_)
      have hb1 : AllBare (s₁.setGen g gs').gens := allBare_setGen I.bare hbare
      cases b with
      | true =>
        simp only [if_true]
        refine wpAny_bind (wpAny_rule (wpAny_pure ?_))
        exact hF H _ (inv_woken I ⟨rfl, rfl, hb1⟩) (q1 rfl)
      | false =>
        simp only [Bool.false_eq_true, if_false]
        have J : Inv Xg pins σg H (s₁.setGen g gs') := inv_woken I ⟨rfl, rfl, hb1⟩
        refine wpAny_pure ⟨plainId_quiet F.plain_any_loop _, ih (s₁.setGen g gs') (pinned J) J.nolimit ⟨gs', setGen_at hsz1, ?_⟩⟩
        have z := q2 rfl ((s₁.setGen g gs').setGen g .running) ⟨rfl, rfl, allBare_setGen hb1 rfl⟩
        exact z
    · intro hsz
      obtain ⟨H, I, q⟩ := hp
      refine wpAny_bind (wpAny_rule (wpAny_pure ?_))
      have J : Inv Xg pins σg H { s₁ with heap := h' } := I.kept (t' := s₁.toks) hk
      exact hE H _ (inv_woken J ⟨rfl, rfl, allBare_setGen (s := s₁) I.bare rfl⟩) q
end

section
variable {Xg : Cx} {pins : List (Addr × Obj)} {σg : L2.St} {A0 : Around} {elt tg iter : Expr} {scope : Scope} {pos : Pos} {it : Addr} {R : GenEnd} {Y : Protocol} {n : Nat} {s₀ s : Shared}
theorem seg_allStart (loop : Seg (model Xg.prog Xg.w) A0 R Y n s₀ (.compLoop (.GeneratorExp elt [⟨tg, iter, [], 0⟩] scope pos) 0 (.ref it) .none Xg.env) ((model Xg.prog Xg.w).den (.compLoop (.GeneratorExp elt [⟨tg, iter, [], 0⟩] scope pos) 0 (.ref it) .none Xg.env)) [] s)
    (self : ∀ (A : Around) (Q : Value → Shared → Prop) (E : Value → Shared → Prop), Q (.ref it) s → wpAny (model Xg.prog Xg.w) A (pyIter (.ref it)) Q E s) :
    Seg (model Xg.prog Xg.w) A0 R Y n s₀ (.compStart (.GeneratorExp elt [⟨tg, iter, [], 0⟩] scope pos) 0 (.ref it) .none Xg.env) ((model Xg.prog Xg.w).den (.compStart (.GeneratorExp elt [⟨tg, iter, [], 0⟩] scope pos) 0 (.ref it) .none Xg.env)) [] s := by
  show Seg _ A0 _ _ _ s₀ _ ((compStart (.GeneratorExp elt [⟨tg, iter, [], 0⟩] scope pos) 0 (.ref it) .none Xg.env).onRaise (leaving Xg.env)) [] s
  unfold compStart
  rw [Sem.onRaise_eq_wrap]
  show Seg _ A0 _ _ _ s₀ _ ((ask >>= _).wrap _ _ _ _) [] s
  refine seg_bind_wrap (wpAny_askSetting ?_)
  split
  · exact seg_again rfl loop
  · first
      | exact seg_bind_wrap (wpAny_rule (seg_bind_wrap (wpAny_standAt (seg_bind_wrap (self _ _ _ (seg_again rfl loop))))))
      | (refine seg_bind_wrap (wpAny_rule ?_); show Seg _ A0 _ _ _ s₀ _ ((standAt iter.pos >>= _).wrap _ _ _ _) [] s; exact seg_bind_wrap (wpAny_standAt (seg_bind_wrap (self _ _ _ (seg_again rfl loop)))))
end
/-- all(elt for tg in iter), any(..): its reading -/
def tQG (P : Addr) (wi : TI) (g : TG) (te : TE) (n : Nat) (stopOn : Bool) : TE := fun σ H Q => wi σ H fun J H1 => GxR.TabG H1 P ∧ ∀ H2, GxR.Tabbed P H1 H2 →
  ∃ W : Nat → Nat → Hp → Prop, (∃ m, W 0 m H2) ∧ Turns J g te (σ ++ List.replicate n none) σ.length stopOn (fun H => Q (.bl (!stopOn)) H) (fun H => Q (.bl stopOn) H) W
section
variable {X : Cx} {pins : List (Addr × Obj)} {σ : L2.St} {H : Hp} {s : Shared}
/-- the generator stands ready at a -/
def ReadyG (X : Cx) (pins : List (Addr × Obj)) (σ : L2.St) (stopOn : Bool) (Q : VK) (a : Addr) (s5 : Shared) : Prop :=
  ∃ (Xg : Cx) (pg : List (Addr × Obj)) (σg : L2.St) (n g : Nat) (c : Code), Xg.prog = X.prog ∧ Xg.w = X.w ∧ s5.heap.IsGen a g ∧ s5.heap.NoLimit ∧ s5.gens[g]? = some (.fresh c) ∧ (∀ s : Shared, (∀ p ∈ pg, s.heap.get? p.1 = some p.2) → s.heap.IsGen a g) ∧
    (∀ s' : Shared, Woken s5 s' → Seg (model X.prog X.w) X.A.in1.in1 (AR Xg pg σg (fun H => Q (.bl (!stopOn)) H)) (AY Xg pg σg stopOn (fun H => Q (.bl stopOn) H)) n s' c ((model X.prog X.w).den c) [] s') ∧
    AllBare s5.gens ∧ ∀ H s', Inv Xg pg σg H s' → Inv X pins σ H s'
theorem gen_ready {c P : Addr} {elt tg iter : Expr} {gpos : Pos} {scope : Scope} {own : List Str} {wi : TI} {g : TG} {te : TE} {stopOn : Bool} {Q : VK} {Q' : Value → Shared → Prop}
    (hd : X.A.handled = none) (hdep : X.A.depth < recursionLimit) (hc : X.calm = true) (TB : GxR.TabB X.base X.mg c P) (hcode : X.env.code = .ref c) (S : GenOk X.N X.env.scope scope own) (hi : PI X tg iter wi)
    (hgt : ∀ (s : Shared) (H : Hp) (C : Addr) (code : Value) (fp : List Addr), PG (gcx X s H scope C code builtinsNs own fp) tg g) (hel : ∀ (s : Shared) (H : Hp) (C : Addr) (code : Value) (fp : List Addr), PE (gcx X s H scope C code builtinsNs own fp) elt te)
    (hs : ∀ v, genFold iter X.env v = pure v) (I : Inv X pins σ H s) (h : tQG P wi g te own.length stopOn σ H Q)
    (hQ : ∀ a s5, ReadyG X pins σ stopOn Q a s5 → Q' (.ref a) s5) :
    wpAny (model X.prog X.w) X.A (eval (.GeneratorExp elt [⟨tg, iter, [], 0⟩] scope gpos) X.env) Q' X.xe s := by
  have hfree : ∀ y ∈ scope.names, y.2 = .free → ∃ c, X.env.cells.lookup y.1 = some c := fun y hy e => by
    rcases S.free y hy e with k | k
    · exact I.ok.has _ (.inl k)
    · exact I.ok.has _ (.inr k)
  refine wpAny_GeneratorExp_make S.co (closure_ok hfree) S.cell S.dot S.kind hdep ?_ hs
  refine thn (hi.run pins s σ H _ I h) fun xv s1 hx => thn hx fun itv s2 h2 => ?_
  obtain ⟨it, fp, tn, J, H2, e, I2, T, st2, f2, ⟨ps, hP, ht⟩, q⟩ := h2
  subst e
  have hPs : s2.heap.get? P = some { cls := .none, data := .fields ps } := I2.hok P _ hP
  have cd : PySem.W.CodeHd s2.heap c P := TB.code.keeps I2.bk
  refine ⟨I2.nolimit, ?_⟩
  have nP : ∀ b ∈ fp, b ≠ P := fun b hb z => by
    have q := (f2 b hb).1
    rw [z, hP] at q
    cases q
  have cont : ∀ (code : Value) (h3 : Heap) (tk : Nat) (more : Array Value), Heap.ExtBut P s2.heap h3 → h3.get? P = some { cls := .none, data := .fields (ps ++ more) } → TriplesOk (ps ++ more).toList →
      wpAny (model X.prog X.w) X.A (builtinsFor X.env.globals X.env.builtins) (fun bi s₄ => ∀ h', h'.Ns s₄.heap.objs.size (fun y => if y = ".0" then some (.ref it) else none) → Heap.SameBut s₄.heap.objs.size (s₄.heap.push { cls := .type "frame", data := .dict #[] }) h' →
          Q' (.ref h'.objs.size) { s₄ with
            gens := s₄.gens.push (.fresh (.compStart (.GeneratorExp elt [⟨tg, iter, [], 0⟩] scope gpos) 0 (.ref it) .none (genEnv scope (cloFrom X.env.cells scope.names []) s₄.heap.objs.size code bi X.env))),
            toks := s₄.toks + 1 + 1 + 1,
            heap := h'.push { cls := .type "generator", data := .fields #[.int s₄.gens.size 0, .str "<genexpr>" (s₄.toks + 1), .str (X.env.qual ++ "<genexpr>") (s₄.toks + 1 + 1)] } }) X.xe { s2 with heap := h3, toks := tk } := by
    intro code h3 tk more hx hP3 ht3
    obtain ⟨bm, ob, e1, e2, e3, e4, e5, e6, e7, e8⟩ := TB.bm
    have keep3 : ∀ b u, b ≠ P → s2.heap.get? b = some u → h3.get? b = some u := fun b u hb e => hx b u hb e
    refine wpAny_builtinsFor (m := X.mg) (by rw [I2.ok.glob]; exact ((I2.mod.glob.keeps I2.bk)).extBut hx TB.gP) e1 e2 (keep3 _ _ e4 (I2.bk _ _ e5)) e6 e7 e8 ?_
    have I3 : Inv X pins σ (upd H2 P (.tbl (ps ++ more))) { s2 with heap := h3, toks := tk } := GxR.inv_tab (g' := s2.gens) (d' := s2.drawn) I2 hP keep3 hP3 I2.bare
    have hT : GxR.Tabbed P H2 (upd H2 P (.tbl (ps ++ more))) := ⟨⟨_, upd_same, ht3⟩, fun b hb => upd_ne hb⟩
    obtain ⟨W, ⟨m0, w0⟩, turn⟩ := q _ hT
    intro h' hn' hs'
    have hsz : h'.objs.size = h3.objs.size + 1 := by rw [hs'.1, Heap.size_push]
    have keep' : ∀ b o, h3.get? b = some o → h'.get? b = some o := fun b o e => hs'.extBut b o (Nat.ne_of_lt (Heap.lt_size e)) (Heap.get?_push_of_some _ e)
    have f3 : ∀ b ∈ fp, FpOk X pins (upd H2 P (.tbl (ps ++ more))) b ∧ b < h3.objs.size := fun b hb => by
      obtain ⟨o, e, _⟩ := T.obj _ _ st2 b hb
      refine ⟨⟨?_, (f2 b hb).2⟩, Heap.lt_size (keep3 b o (nP b hb) e)⟩
      rw [upd_ne (nP b hb)]
      exact (f2 b hb).1
    have st3 : tn 0 h3 := T.keep _ _ _ st2 fun b hb o e => keep3 b o (nP b hb) e
    refine hQ _ _ ?_
    have Ig := gen_start (own := own) (code := code) (it := it) (h' := h') (tk := tk + 1 + 1 + 1) (go := { cls := .type "generator", data := .fields #[.int s2.gens.size 0, .str "<genexpr>" (tk + 1), .str (X.env.qual ++ "<genexpr>") (tk + 1 + 1)] })
      (gs := s2.gens.push (.fresh (.compStart (.GeneratorExp elt [⟨tg, iter, [], 0⟩] scope gpos) 0 (.ref it) .none (genEnv scope (cloFrom X.env.cells scope.names []) h3.objs.size code builtinsNs X.env)))) hc I3 S f3 hn' keep' hsz (AllBare.push I2.bare rfl) (fun v z => by cases z) rfl
    have isG : ∀ h : Heap, h.get? h'.objs.size = some ({ cls := .type "generator", data := .fields #[.int s2.gens.size 0, .str "<genexpr>" (tk + 1), .str (X.env.qual ++ "<genexpr>") (tk + 1 + 1)] } : Obj) → h.IsGen h'.objs.size s2.gens.size := fun h e => ⟨_, _, _, e, rfl, rfl, rfl⟩
    have stg : tn 0 (h'.push ({ cls := .type "generator", data := .fields #[.int s2.gens.size 0, .str "<genexpr>" (tk + 1), .str (X.env.qual ++ "<genexpr>") (tk + 1 + 1)] } : Obj)) := T.keep _ _ _ st3 fun b _ o e => Heap.get?_push_of_some _ (keep' b o e)
    refine ⟨gcx X { s2 with heap := h3, toks := tk } (upd H2 P (.tbl (ps ++ more))) scope h3.objs.size code builtinsNs own fp, [(h'.objs.size, ({ cls := .type "generator", data := .fields #[.int s2.gens.size 0, .str "<genexpr>" (tk + 1), .str (X.env.qual ++ "<genexpr>") (tk + 1 + 1)] } : Obj))], σ ++ List.replicate own.length none, m0 + 1, s2.gens.size, _, rfl, rfl, isG _ (Heap.get?_push_size _ rfl), Ig.nolimit, Array.getElem?_push_size .., fun s hp => isG _ (hp (h'.objs.size, ({ cls := .type "generator", data := .fields #[.int s2.gens.size 0, .str "<genexpr>" (tk + 1), .str (X.env.qual ++ "<genexpr>") (tk + 1 + 1)] } : Obj)) (List.mem_singleton.mpr rfl)), fun s' z => ?_, Ig.bare, fun H s' I' => ?_⟩
    · have Ig' := inv_woken Ig z
      have st' : tn 0 s'.heap := by rw [z.heap]; exact stg
      refine seg_allStart (Xg := gcx X _ _ scope h3.objs.size code builtinsNs own fp) (seg_all (Xg := gcx X _ _ scope h3.objs.size code builtinsNs own fp) (tn := tn) (fp := fp) (k := σ.length) (W := W) over_gen rfl rfl rfl rfl S.co T (hgt _ _ _ _ _) (hel _ _ _ _ _) (fun b hb p hp => ?_) ?_ turn m0 (m0 + 1) 0 s' s' _ (Nat.lt_succ_self _) w0 Ig' st' fun b hb => (f3 b hb).1.1) (fun A Q E hq => T.self A 0 s' Q E st' hq)
      · rw [List.mem_singleton.mp hp]
        show h'.objs.size ≠ b
        have q := (f3 b hb).2
        rw [hsz]
        exact Nat.ne_of_gt (Nat.lt_succ_of_lt q)
      · rw [List.take_left', List.length_append, List.length_replicate, Nat.add_sub_cancel_left]
        rfl
    · exact I3.call' (ch := fp) I'.os I'.base I'.hok I'.bare fun b hb => ⟨(f3 b hb).1.2.2.2.1, (f3 b hb).1.2.1, (f3 b hb).1.2.2.2.2.1, (f3 b hb).1.2.2.2.2.2⟩
  cases hf : codeAmong gpos ps.toList with
  | none =>
    refine wpAny_genexprCodeX hcode (cd.code hPs ht) (cd.tab hPs) hf fun c' h' tk hx hge hlt hco' _ htab' _ => ?_
    obtain ⟨o1, vs, f1, tf, fl, tg', inF, tx, tt, op, _, _, _, _, _, _, _, _, _, htr, _⟩ := hco'
    exact cont _ h' tk _ hx htab'.2 htr
  | some cv =>
    refine wpAny_genexprCode_hit hcode (cd.code hPs ht) hf ?_
    exact cont cv s2.heap s2.toks #[] (Heap.ExtBut.refl _ _) (by simpa using hPs) (by simpa using ht)

theorem pe_allG {c P : Addr} {elt tg iter : Expr} {p pos gpos : Pos} {scope : Scope} {own : List Str} {wi : TI} {g : TG} {te : TE} {k : Nat} (hr : Room k X.A) (hg : Gl X "all") (hm : X.mg "all" = none) (hb : bootBuiltins "all" = some (.builtin "all"))
    (hc : X.calm = true) (TB : GxR.TabB X.base X.mg c P) (hcode : X.env.code = .ref c) (S : GenOk X.N X.env.scope scope own) (hi : PI X tg iter wi)
    (hgt : ∀ (s : Shared) (H : Hp) (C : Addr) (code : Value) (fp : List Addr), PG (gcx X s H scope C code builtinsNs own fp) tg g) (hel : ∀ (s : Shared) (H : Hp) (C : Addr) (code : Value) (fp : List Addr), PE (gcx X s H scope C code builtinsNs own fp) elt te)
    (hs : ∀ v, genFold iter X.env v = pure v := by intro _; rfl)
    (he : starEach [.GeneratorExp elt [⟨tg, iter, [], 0⟩] scope gpos] X.env = (false, eval (.GeneratorExp elt [⟨tg, iter, [], 0⟩] scope gpos) X.env) :: starEach [] X.env := by rfl) :
    PE X (.Call (.Name "all" p) [.GeneratorExp elt [⟨tg, iter, [], 0⟩] scope gpos] [] pos) (tQG P wi g te own.length false) := by
  refine ⟨fun pins s σ H Q I h => ?_⟩
  have hdep : X.A.depth < recursionLimit := by have := hr.dp; omega
  refine wpAny_Call_Name_kw (ld_blt I hg hm hb ?_)
  refine PyProof.Rows.callWith_builtin1 ?_ he (by rfl)
  rw [he]
  show wpAny _ _ (spliced ((false, eval (.GeneratorExp elt [⟨tg, iter, [], 0⟩] scope gpos) X.env) :: backTo pos (starEach [] X.env))) _ _ s
  refine Calls.spliced_cons (gen_ready hr.hd hdep hc TB hcode S hi hgt hel hs I h fun a s5 hR => ?_)
  refine Calls.spliced_nil ?_
  obtain ⟨Xg, pg, σg, n, gi, c5, eP, eW, isG, lim, hgs, hgen, hseg, hbare, back⟩ := hR
  refine call_function_tree F.kind_all F.plain_all F.entry_all (F.args_all1 _) ?_
  unfold Builtin.«all»
  refine wpAny_bind (m := oneArg "all" _) (wpAny_pure ?_)
  refine wpAny_bind (wpAny_pyIter_gen isG ?_)
  rw [← eP, ← eW]
  refine wpAny_pure ⟨plainId_quiet F.plain_all_loop _, all_drain (Xg := Xg) (pins := pg) (σg := σg) (Qe := fun H => Q (.bl true) H) (Qf := fun H => Q (.bl false) H) hr.hd hdep hgen (fun H s' I' q => ?_) (fun H s' I' q => ?_) n s5 isG lim ⟨_, hgs, rfl, ?_⟩⟩
  · exact ⟨.bl true, H, back H s' I', rfl, q⟩
  · exact ⟨.bl false, H, back H s' I', rfl, q⟩
  · rw [eP, eW]
    exact hseg _ ⟨rfl, rfl, allBare_setGen hbare rfl⟩
theorem pe_anyG {c P : Addr} {elt tg iter : Expr} {p pos gpos : Pos} {scope : Scope} {own : List Str} {wi : TI} {g : TG} {te : TE} {k : Nat} (hr : Room k X.A) (hg : Gl X "any") (hm : X.mg "any" = none)
    (hc : X.calm = true) (TB : GxR.TabB X.base X.mg c P) (hcode : X.env.code = .ref c) (S : GenOk X.N X.env.scope scope own) (hi : PI X tg iter wi)
    (hgt : ∀ (s : Shared) (H : Hp) (C : Addr) (code : Value) (fp : List Addr), PG (gcx X s H scope C code builtinsNs own fp) tg g) (hel : ∀ (s : Shared) (H : Hp) (C : Addr) (code : Value) (fp : List Addr), PE (gcx X s H scope C code builtinsNs own fp) elt te)
    (hs : ∀ v, genFold iter X.env v = pure v := by intro _; rfl)
    (he : starEach [.GeneratorExp elt [⟨tg, iter, [], 0⟩] scope gpos] X.env = (false, eval (.GeneratorExp elt [⟨tg, iter, [], 0⟩] scope gpos) X.env) :: starEach [] X.env := by rfl) :
    PE X (.Call (.Name "any" p) [.GeneratorExp elt [⟨tg, iter, [], 0⟩] scope gpos] [] pos) (tQG P wi g te own.length true) := by
  refine ⟨fun pins s σ H Q I h => ?_⟩
  have hdep : X.A.depth < recursionLimit := by have := hr.dp; omega
  refine wpAny_Call_Name_kw (ld_blt I hg hm boot_any ?_)
  refine PyProof.Rows.callWith_builtin1 ?_ he (by rfl)
  rw [he]
  show wpAny _ _ (spliced ((false, eval (.GeneratorExp elt [⟨tg, iter, [], 0⟩] scope gpos) X.env) :: backTo pos (starEach [] X.env))) _ _ s
  refine Calls.spliced_cons (gen_ready hr.hd hdep hc TB hcode S hi hgt hel hs I h fun a s5 hR => ?_)
  refine Calls.spliced_nil ?_
  obtain ⟨Xg, pg, σg, n, gi, c5, eP, eW, isG, lim, hgs, hgen, hseg, hbare, back⟩ := hR
  refine call_function_tree F.kind_any F.plain_any F.entry_any (F.args_any1 _) ?_
  unfold Builtin.«any»
  refine wpAny_bind (m := oneArg "any" _) (wpAny_pure ?_)
  refine wpAny_bind (wpAny_pyIter_gen isG ?_)
  rw [← eP, ← eW]
  refine wpAny_pure ⟨plainId_quiet F.plain_any_loop _, any_drain (Xg := Xg) (pins := pg) (σg := σg) (Qe := fun H => Q (.bl false) H) (Qf := fun H => Q (.bl true) H) hr.hd hdep hgen (fun H s' I' q => ?_) (fun H s' I' q => ?_) n s5 isG lim ⟨_, hgs, rfl, ?_⟩⟩
  · exact ⟨.bl false, H, back H s' I', rfl, q⟩
  · exact ⟨.bl true, H, back H s' I', rfl, q⟩
  · rw [eP, eW]
    exact hseg _ ⟨rfl, rfl, allBare_setGen hbare rfl⟩
end
end Kb
set_option Elab.async false
set_option linter.all false
set_option maxRecDepth 100000
set_option maxHeartbeats 2000000
namespace Kb
open PySem PySem.Spec PyProof.Rows L2
/-! ### zip of two of lists, tuples, texts, in any mix -/
inductive Sc where
  | lst (a : Addr) (xs : List V) | tup (a : Addr) (xs : List V) | txt (z : Str)
def Sc.val : Sc → Nat → Option V
  | .lst _ xs, i => xs[i]?
  | .tup _ xs, i => xs[i]?
  | .txt z, i => (z.cps[i]?).map fun c => .str ⟨#[c]⟩
def Sc.len : Sc → Nat
  | .lst _ xs => xs.length
  | .tup _ xs => xs.length
  | .txt z => z.cps.size
def Sc.ok (K : PySem.W.Frag) (H : Hp) : Sc → Prop
  | .lst a xs => SqL K H a xs
  | .tup a xs => SqT K H a xs
  | .txt _ => True
def Sc.v : Sc → V
  | .lst a _ => .ref a
  | .tup a _ => .ref a
  | .txt z => .str z
def Sc.at : Sc → Addr → Nat → Heap → Prop
  | .lst a _, it, i, h => h.IsListIter it a i
  | .tup a _, it, i, h => h.IsTupleIter it a i
  | .txt z, it, i, h => ∃ t, h.IsStrIter it (strIterType z) z t i
def Sc.below : Sc → Nat → Prop
  | .lst a _, N => a < N
  | .tup a _, N => a < N
  | .txt _, _ => True
theorem Sc.at_obj {S : Sc} {it : Addr} {i : Nat} {h : Heap} (x : S.at it i h) : ∃ o, h.get? it = some o ∧ ∀ v, o.data ≠ .cell v := by
  cases S with
  | lst a xs => obtain ⟨o, e, _, d⟩ := x; exact ⟨o, e, fun v z => by rw [d] at z; cases z⟩
  | tup a xs => obtain ⟨o, e, _, d⟩ := x; exact ⟨o, e, fun v z => by rw [d] at z; cases z⟩
  | txt z => obtain ⟨t, o, e, _, d⟩ := x; exact ⟨o, e, fun v z => by rw [d] at z; cases z⟩
theorem Sc.at_keep {S : Sc} {it : Addr} {i : Nat} {h h' : Heap} (x : S.at it i h) (k : ∀ o, h.get? it = some o → h'.get? it = some o) : S.at it i h' := by
  cases S with
  | lst a xs => obtain ⟨o, e, r⟩ := x; exact ⟨o, k o e, r⟩
  | tup a xs => obtain ⟨o, e, r⟩ := x; exact ⟨o, k o e, r⟩
  | txt z => obtain ⟨t, o, e, r⟩ := x; exact ⟨t, o, k o e, r⟩
section
variable {X : Cx} {pins : List (Addr × Obj)} {σ : L2.St} {H : Hp} {s : Shared}
theorem Sc.draws {S : Sc} {it : Addr} {i N : Nat} {A : Around} (I : Inv X pins σ H s) (q : S.ok X.K H) (hb : S.below N) (hN : N ≤ it) (hh : A.handled = none) (x : S.at it i s.heap) :
    ∃ (fp : List Addr) (P : Nat → Value → Prop) (St : Nat → Heap → Prop), Draws X.prog X.w A it (it :: fp) S.len P St ∧ St i s.heap ∧ (∀ b ∈ fp, b < N) ∧ (∀ j u, P j u → ∃ v, S.val j = some v ∧ RelV v u) ∧ ∀ j h, St j h → S.at it j h := by
  cases S with
  | lst a xs =>
    obtain ⟨its, rv, p, _⟩ := I.list q
    have ne : a ≠ it := Nat.ne_of_lt (Nat.lt_of_lt_of_le hb hN)
    have el : its.toArray.size = xs.length := by rw [List.size_toArray]; exact rv.length.symm
    refine ⟨[a], fun i v => its.toArray[i]? = some v, fun i h => h.IsListIter it a i ∧ h.IsList a its.toArray, (by show Draws _ _ _ _ _ xs.length _ _; rw [← el]; exact Draws.list hh it a ne its.toArray), ⟨x, p.isList⟩, fun b hb' => by rw [List.mem_singleton.mp hb']; exact hb, fun j u hu => ?_, fun j h z => z.1⟩
    have hu' : its[j]? = some u := by simpa using hu
    cases e : xs[j]? with
    | none => rw [rv.none_of e] at hu'; cases hu'
    | some v =>
      obtain ⟨u', e1, e2⟩ := rv.get e
      rw [e1] at hu'
      cases hu'
      exact ⟨v, e, e2⟩
  | tup a xs =>
    obtain ⟨its, rv, p, _⟩ := I.tuple q
    have ne : a ≠ it := Nat.ne_of_lt (Nat.lt_of_lt_of_le hb hN)
    have el : its.toArray.size = xs.length := by rw [List.size_toArray]; exact rv.length.symm
    have pt : s.heap.IsTuple a its.toArray := by
      obtain ⟨o, e, c, n, d⟩ := p
      exact ⟨o, e, c, n, d⟩
    refine ⟨[a], fun i v => its.toArray[i]? = some v, fun i h => h.IsTupleIter it a i ∧ h.IsTuple a its.toArray, (by show Draws _ _ _ _ _ xs.length _ _; rw [← el]; exact Draws.tuple hh it a ne its.toArray), ⟨x, pt⟩, fun b hb' => by rw [List.mem_singleton.mp hb']; exact hb, fun j u hu => ?_, fun j h z => z.1⟩
    have hu' : its[j]? = some u := by simpa using hu
    cases e : xs[j]? with
    | none => rw [rv.none_of e] at hu'; cases hu'
    | some v =>
      obtain ⟨u', e1, e2⟩ := rv.get e
      rw [e1] at hu'
      cases hu'
      exact ⟨v, e, e2⟩
  | txt z =>
    obtain ⟨t, x⟩ := x
    refine ⟨[], fun i v => ∃ c u, z.cps[i]? = some c ∧ v = .str ⟨#[c]⟩ u, fun i h => h.IsStrIter it (strIterType z) z t i, Draws.text hh it z t, x, fun b hb' => (by cases hb'), fun j u hu => ?_, fun j h y => ⟨t, y⟩⟩
    obtain ⟨c, t', e, rfl⟩ := hu
    exact ⟨.str ⟨#[c]⟩, by show (z.cps[j]?).map _ = _; rw [e]; rfl, t', rfl⟩
end
def Itzz (K : PySem.W.Frag) (S1 S2 : Sc) : It where
  go i H := S1.ok K H ∧ S2.ok K H ∧ i < min S1.len S2.len
  yld i H v H' := ∃ T x y, v = .ref T ∧ H T = none ∧ H' = upd H T (.tup [x, y]) ∧ S1.val i = some x ∧ S2.val i = some y
  stop i H := S1.ok K H ∧ S2.ok K H ∧ i = min S1.len S2.len
theorem turn_zz {P : Program} {w : World} {K : PySem.W.Frag} {elts : List Expr} {kk : Nat} {tpos : Pos} {S1 S2 : Sc} {N : Nat} (b1 : S1.below N) (b2 : S2.below N) :
    Turn P w K (.Tuple elts kk tpos) (Itzz K S1 S2) [N + 4, N + 2, N + 3, N, N + 1] (N + 4) (fun i h => IsZip h (N + 4) (N + 2) (N + 3) .none ∧ IsTupOf2 h (N + 2) (.ref N) (.ref (N + 1)) ∧ (∃ a1 a2, IsTupOf2 h (N + 3) a1 a2) ∧ S1.at N i h ∧ S2.at (N + 1) i h) where
  mem := by simp
  obj := fun i h st c hc => by
    obtain ⟨hz, hTI, ⟨x, y, hTO⟩, h1, h2⟩ := st
    have e' : c = N + 4 ∨ c = N + 2 ∨ c = N + 3 ∨ c = N ∨ c = N + 1 := by simpa using hc
    rcases e' with q | q | q | q | q
    · rw [q]; exact ⟨_, hz, fun v q => nomatch q⟩
    · rw [q]; exact ⟨_, hTI, fun v q => nomatch q⟩
    · rw [q]; exact ⟨_, hTO, fun v q => nomatch q⟩
    · rw [q]; exact Sc.at_obj h1
    · rw [q]; exact Sc.at_obj h2
  keep := fun i h h' st k => by
    obtain ⟨hz, hTI, ⟨x, y, hTO⟩, h1, h2⟩ := st
    exact ⟨k (N + 4) (by simp) _ hz, k (N + 2) (by simp) _ hTI, ⟨x, y, k (N + 3) (by simp) _ hTO⟩, Sc.at_keep h1 fun o q => k N (by simp) o q, Sc.at_keep h2 fun o q => k (N + 1) (by simp) o q⟩
  item := by
    intro X hP hw hK hc i pins s σ H E I hf st hg
    subst hP hw hK
    obtain ⟨hz, hTI, hTO, h1, h2⟩ := st
    obtain ⟨o1, o2, hi⟩ := hg
    have hh : X.A.in1.handled = none := I.ok.hd hc
    obtain ⟨f1, P1, St1, D1, s1, l1, v1, t1⟩ := Sc.draws (A := X.A.in1) I o1 b1 (Nat.le_refl N) hh h1
    obtain ⟨f2, P2, St2, D2, s2, l2, v2, t2⟩ := Sc.draws (A := X.A.in1) I o2 b2 (Nat.le_succ N) hh h2
    have G := GoesN.zip2 (elts := elts) (x1 := kk) (pos := tpos) (zip_sep2 l1 l2) D1 D2
    have hlt : ∀ c ∈ [N + 4, N + 2, N + 3, N, N + 1], c < s.heap.objs.size := fun c hcm => by
      have e' : c = N + 4 ∨ c = N + 2 ∨ c = N + 3 ∨ c = N ∨ c = N + 1 := by simpa using hcm
      obtain ⟨oa, ea, _⟩ := Sc.at_obj h1
      obtain ⟨ob, eb, _⟩ := Sc.at_obj h2
      obtain ⟨x0, y0, hTO'⟩ := hTO
      rcases e' with q | q | q | q | q
      · rw [q]; exact Heap.lt_size hz
      · rw [q]; exact Heap.lt_size hTI
      · rw [q]; exact Heap.lt_size hTO'
      · rw [q]; exact Heap.lt_size ea
      · rw [q]; exact Heap.lt_size eb
    refine wpAny_mono (G.goes i s (fun v s2 => ∃ x H', Inv X pins σ H' s2 ∧ RelV x v ∧ (Itzz X.K S1 S2).yld i H x H' ∧ (IsZip s2.heap (N + 4) (N + 2) (N + 3) .none ∧ IsTupOf2 s2.heap (N + 2) (.ref N) (.ref (N + 1)) ∧ (∃ a1 a2, IsTupOf2 s2.heap (N + 3) a1 a2) ∧ S1.at N (i + 1) s2.heap ∧ S2.at (N + 1) (i + 1) s2.heap) ∧ ∀ b ∈ [N + 4, N + 2, N + 3, N, N + 1], H' b = none) E hi ⟨hz, hTI, hTO, s1, s2⟩ fun v h' tk hY hst hk _ => ?_) (fun r s1 q => q) fun _ _ q => q
    obtain ⟨T, u1, u2, rfl, hnew, p1, p2, oT, eT, cT, nT, dT⟩ := hY
    obtain ⟨z', TI', TO', s1', s2'⟩ := hst
    obtain ⟨x, ex, rx⟩ := v1 i u1 p1
    obtain ⟨y, ey, ry⟩ := v2 i u2 p2
    have new : ObjOk X.prog X.w (upd H T (.tup [x, y])) h' T (.tup [x, y]) := ⟨by show 2 ≤ sizeLine; decide, [u1, u2], .cons rx (.cons ry .nil), ⟨oT, eT, cT, nT, dT⟩⟩
    have I1 : Inv X pins σ (upd H T (.tup [x, y])) { s with heap := h', toks := tk } :=
      I.turnedNew (t' := tk) (ch := [N + 4, N + 2, N + 3, N, N + 1]) (fun c o hb q => hk c o (fun q' => hb (by
        have e' : c = N + 4 ∨ c = N + 3 ∨ c = N ∨ c = N + 1 := by simpa using q'
        rcases e' with z | z | z | z <;> simp [z])) q) hf hnew new
    exact ⟨.ref T, _, I1, rfl, ⟨T, x, y, rfl, I.hok.fresh hnew, rfl, ex, ey⟩, ⟨z', TI', TO', t1 _ _ s1', t2 _ _ s2'⟩, fun c hcm => by
      rw [upd_ne (Nat.ne_of_lt (Nat.lt_of_lt_of_le (hlt c hcm) hnew))]
      exact (hf c hcm).1⟩
  done := by
    intro X hP hw hK hc i pins s σ H E I hf st hg
    subst hP hw hK
    obtain ⟨hz, hTI, hTO, h1, h2⟩ := st
    obtain ⟨o1, o2, rfl⟩ := hg
    have hh : X.A.in1.handled = none := I.ok.hd hc
    obtain ⟨f1, P1, St1, D1, s1, l1, v1, t1⟩ := Sc.draws (A := X.A.in1) I o1 b1 (Nat.le_refl N) hh h1
    obtain ⟨f2, P2, St2, D2, s2, l2, v2, t2⟩ := Sc.draws (A := X.A.in1) I o2 b2 (Nat.le_succ N) hh h2
    have G := GoesN.zip2 (elts := elts) (x1 := kk) (pos := tpos) (zip_sep2 l1 l2) D1 D2
    refine G.stops s (fun s' => Inv X pins σ H s') E ⟨hz, hTI, hTO, s1, s2⟩ fun h' tk hk _ => ?_
    exact I.turnedL (t' := tk) (ch := [N + 4, N + 2, N + 3, N, N + 1]) (fun c o hb q => hk c o (fun q' => hb (by
        have e' : c = N + 4 ∨ c = N + 3 ∨ c = N ∨ c = N + 1 := by simpa using q'
        rcases e' with z | z | z | z <;> simp [z])) q) hf
  self := fun _ _ _ _ _ st h => wpAny_pyIter_zip st.1 h
def iZipU (K : PySem.W.Frag) (ta : TA) : TI := fun σ H R => ta σ H fun vs H1 => ∃ S1 S2 : Sc, vs = [S1.v, S2.v] ∧ S1.ok K H1 ∧ S2.ok K H1 ∧ R (Itzz K S1 S2) H1

section
variable {X : Cx} {pins : List (Addr × Obj)} {σ : L2.St} {H : Hp} {s : Shared}
theorem Sc.begins {S : Sc} {u : Value} (I : Inv X pins σ H s) (q : S.ok X.K H) (r : RelV S.v u) : ∃ (o : Obj) (Hq : Heap → Prop), Begins u o Hq ∧ Hq s.heap ∧ S.below s.heap.objs.size ∧ ∀ (it : Addr) (h : Heap), h.get? it = some o → S.at it 0 h := by
  cases S with
  | lst a xs =>
    obtain ⟨its, rv, p, _⟩ := I.list q
    cases (show u = Value.ref a from r)
    exact ⟨_, _, begins_list a its.toArray, p.isList, p.lt, fun it h e => ⟨_, e, rfl, rfl⟩⟩
  | tup a xs =>
    obtain ⟨its, rv, p, _⟩ := I.tuple q
    cases (show u = Value.ref a from r)
    have pt : s.heap.IsTuple a its.toArray := by
      obtain ⟨o, e, c, n, d⟩ := id p
      exact ⟨o, e, c, n, d⟩
    exact ⟨_, _, begins_tuple a its.toArray, pt, p.lt, fun it h e => ⟨_, e, rfl, rfl⟩⟩
  | txt z =>
    obtain ⟨t, rfl⟩ := (show ∃ t, u = Value.str z t from r)
    exact ⟨_, _, begins_text z t, trivial, trivial, fun it h e => ⟨t, _, e, rfl, rfl⟩⟩
end
theorem pi_zipU {X : Cx} {e e2 : Expr} {ta : TA} {p pos tpos : Pos} {elts : List Expr} {kk : Nat} (hg : Gl X "zip") (hm : X.mg "zip" = none) (ha : PA X [e, e2] ta)
    (hs : starEach [e, e2] X.env = (false, eval e X.env) :: starEach [e2] X.env := by rfl) (hpl : (backTo pos (starEach [e2] X.env)).any (·.1) = false := by rfl) :
    PI X (.Tuple elts kk tpos) (.Call (.Name "zip" p) [e, e2] [] pos) (iZipU X.K ta) := by
  refine ⟨fun pins s σ H R I h => ?_⟩
  refine Call_ (ld_blt I hg hm PyProof.Rows.boot_zip (PyProof.Rows.callWith_type1 (thn (ha.run pos pins s σ H _ I h) fun us s1 ⟨vs, H1, I1, r1, q1⟩ => ?_) hs hpl))
  obtain ⟨S1, S2, ex, hq1, hq2, q⟩ := q1
  subst ex
  obtain ⟨u1, u2, rfl, ru1, ru2⟩ := vals2 r1
  obtain ⟨o1, Hq1, B1, c1, l1, a1⟩ := Sc.begins I1 hq1 ru1
  obtain ⟨o2, Hq2, B2, c2, l2, a2⟩ := Sc.begins I1 hq2 ru2
  refine zip_begins2 B1 B2 c1 c2 fun h' hz hTI hTO h1 h2 hsz hk => wpAny_pyIter_zip hz ?_
  have I2 : Inv X pins σ H1 { s1 with heap := h' } := I1.kept (t' := s1.toks) hk
  refine ⟨s1.heap.objs.size + 4, [s1.heap.objs.size + 4, s1.heap.objs.size + 2, s1.heap.objs.size + 3, s1.heap.objs.size, s1.heap.objs.size + 1], _, _, H1, rfl, I2, turn_zz l1 l2, ⟨hz, hTI, ⟨_, _, hTO⟩, a1 _ _ h1, a2 _ _ h2⟩, fun c hcm => ?_, q⟩
  have e' : c = s1.heap.objs.size + 4 ∨ c = s1.heap.objs.size + 2 ∨ c = s1.heap.objs.size + 3 ∨ c = s1.heap.objs.size ∨ c = s1.heap.objs.size + 1 := by simpa using hcm
  have hle : s1.heap.objs.size ≤ c := by
    rcases e' with z | z | z | z | z
    · rw [z]; exact Nat.le_add_right _ _
    · rw [z]; exact Nat.le_add_right _ _
    · rw [z]; exact Nat.le_add_right _ _
    · rw [z]; exact Nat.le_refl _
    · rw [z]; exact Nat.le_add_right _ _
  exact I1.fpOk hle (I1.hok.fresh hle)
end Kb
set_option Elab.async false
set_option linter.all false
set_option maxRecDepth 100000
set_option maxHeartbeats 2000000
namespace Kb
open PySem PySem.Spec PyProof.Rows L2
/-! ### dicts of the written part, keys ints or texts: in, d[k], d.items() -/
def entOk (w : World) (e : DictEntry) (p : Key × V) : Prop := keyIs p.1 e.key = true ∧ e.hash = keyH w p.1 ∧ RelV p.2 e.val
structure KD (w : World) (K : PySem.W.Frag) (d : Addr) (kvs : List (Key × V)) : Prop where
  at_ : ∃ (es : Array DictEntry) (n : Nat), K.lookup d = some ⟨.type "dict", none, .dict es n, #[]⟩ ∧ Paired (entOk w) es.toList kvs
  low : (d == sysModules) = false
  nd : (kvs.map (·.1)).Nodup
theorem kd_vals {P : Program} {w : World} : ∀ {es : List DictEntry} {kvs : List (Key × V)}, Paired (entOk w) es kvs → ∃ vs : List (Key × Value), KV kvs vs ∧ Pairs (mixKind P w) es vs ∧ vs.map (·.1) = kvs.map (·.1) ∧ ∀ e ∈ es, ∃ k, (mixKind P w).is k e.key = true ∧ e.hash = (mixKind P w).hash k
  | _, _, .nil => ⟨[], .nil, .nil, rfl, fun _ h => nomatch h⟩
  | _, _, .cons (a := e) (b := p) h r => by
    obtain ⟨vs, h1, h2, h3, h4⟩ := kd_vals (P := P) r
    obtain ⟨a1, a2, a3⟩ := h
    refine ⟨(p.1, e.val) :: vs, .cons ⟨rfl, a3⟩ h1, ?_, by rw [List.map_cons, List.map_cons, h3], fun x hx => ?_⟩
    · obtain ⟨hh, hk, hv⟩ := e
      exact .cons a1 rfl h2
    · rcases List.mem_cons.mp hx with z | z
      · rw [z]
        exact ⟨p.1, a1, a2⟩
      · exact h4 x z
theorem KD.dictAt {P : Program} {w : World} {K : PySem.W.Frag} {d : Addr} {kvs : List (Key × V)} {h : Heap} (D : KD w K d kvs) (X : K.In h) : ∃ (ep : Nat) (vs : List (Key × Value)), KV kvs vs ∧ h.DictAt (mixKind P w) d vs ep := by
  obtain ⟨es, n, hl, hp⟩ := D.at_
  obtain ⟨vs, h1, h2, h3, h4⟩ := kd_vals (P := P) hp
  exact ⟨n, vs, h1, _, es, X _ _ hl, ⟨rfl, rfl, rfl⟩, rfl, fun e he => h4 e (Array.mem_toList_iff.mpr he), h2, by rw [h3]; exact D.nd⟩
def rInK (w : World) (K : PySem.W.Frag) (neg : Bool) : R2 := fun x y H Q => ∃ d kvs k, x = kV k ∧ y = .ref d ∧ KD w K d kvs ∧ Q (.bl (if neg then !(valV kvs k).isSome else (valV kvs k).isSome)) H
def rGetK (w : World) (K : PySem.W.Frag) : R2 := fun x y H Q => ∃ d kvs k v, x = .ref d ∧ y = kV k ∧ KD w K d kvs ∧ valV kvs k = some v ∧ Q v H
section
variable {X : Cx}
theorem op_inK : OpR X (compareOp .In) (rInK X.w X.K false) := by
  intro pins s σ H x y v u Q I rx ry h
  obtain ⟨d, kvs, k, rfl, rfl, D, q⟩ := h
  cases (show u = Value.ref d from ry)
  obtain ⟨ep, vs, rel, dd⟩ := D.dictAt (P := X.prog) I.kIn
  refine wpAny_in_of (kV_is rx) D.low dd.dictOf.mapOf ?_
  rw [← (rel.val k).isSome_eq]
  exact ⟨.bl _, H, I.tok _, rfl, q⟩
theorem op_notInK : OpR X (compareOp .NotIn) (rInK X.w X.K true) := by
  intro pins s σ H x y v u Q I rx ry h
  obtain ⟨d, kvs, k, rfl, rfl, D, q⟩ := h
  cases (show u = Value.ref d from ry)
  obtain ⟨ep, vs, rel, dd⟩ := D.dictAt (P := X.prog) I.kIn
  refine wpAny_notIn_of (kV_is rx) D.low dd.dictOf.mapOf ?_
  rw [← (rel.val k).isSome_eq]
  exact ⟨.bl _, H, I.tok _, rfl, q⟩
theorem ix_kd : IxR X (rGetK X.w X.K) := by
  intro value slice pins s σ H x y v u Q I rx ry h hs
  obtain ⟨d, kvs, k, r, rfl, rfl, D, l, q⟩ := h
  cases (show v = Value.ref d from rx)
  obtain ⟨ep, vs, rel, dd⟩ := D.dictAt (P := X.prog) I.kIn
  obtain ⟨w', hw, rw'⟩ := RelO.some_of (v := r) (o := valueAt vs k) (by rw [← l]; exact rel.val k)
  exact tail_any dd.dictOf.typeIs slot_dict_getitem.lookup (wpAny_getItem_of (kV_is ry) dd.dictOf.mapOf hw ⟨r, H, I.tok _, rw', q⟩) hs
end
def ItKD (kvs : List (Key × V)) : It :=
  ⟨fun i H => i < kvs.length, fun i H x H' => ∃ T k v, kvs[i]? = some (k, v) ∧ x = .ref T ∧ H T = none ∧ H' = upd H T (.tup [kV k, v]), fun i H => kvs.length ≤ i⟩
theorem turn_kd {P : Program} {w : World} {K : PySem.W.Frag} {d : Addr} {kvs : List (Key × V)} {elts : List Expr} {kk : Nat} {tpos : Pos} {ep : Nat} (D : KD w K d kvs) (hep : ∀ h vs ep', K.In h → h.DictAt (mixKind P w) d vs ep' → ep' = ep) (it : Addr) :
    Turn P w K (.Tuple elts kk tpos) (ItKD kvs) [it] it (fun i h => ∃ ok ov, IsItemIter h it d i kvs.length ep ok ov) where
  mem := by simp
  obj := fun i h st b hb => by
    have e : b = it := by simpa using hb
    subst e
    obtain ⟨ok, ov, e⟩ := st
    exact ⟨_, e, fun v z => nomatch z⟩
  keep := fun i h h' st k => let ⟨ok, ov, e⟩ := st; ⟨ok, ov, k it (by simp) _ e⟩
  item := by
    intro X hP hw hK hc i pins s σ H E I hf st hi
    subst hP hw hK
    have hi : i < kvs.length := hi
    obtain ⟨ep', vs, kv, hm⟩ := D.dictAt (P := X.prog) I.kIn
    obtain rfl := hep _ _ _ I.kIn hm
    obtain ⟨⟨k, v⟩, hkv⟩ : ∃ p, kvs[i]? = some p := ⟨kvs[i], List.getElem?_eq_getElem hi⟩
    obtain ⟨u, hu, ru⟩ := kv_get kv hkv
    have hl : kvs.length = vs.length := Paired.length kv
    obtain ⟨ok, ov, he⟩ := st
    rw [hl] at he
    have hlt : it < s.heap.objs.size := Heap.lt_size he
    refine wpAny_pyNext_items_item he hm hu fun key h' hkey ho hT hz hk => ?_
    refine ⟨_, rfl, wpAny_letOwnedTupleGo_items (s := { s with heap := h' }) ho fun h'' he' sb => ?_⟩
    have hT2 : h''.get? s.heap.objs.size = some { cls := .type "tuple", data := .seq #[key, u] } := (sb.2 _ (Nat.ne_of_gt hlt)).trans hT
    have new : ObjOk X.prog X.w (upd H s.heap.objs.size (.tup [kV k, v])) h'' s.heap.objs.size (.tup [kV k, v]) :=
      ⟨by show 2 ≤ sizeLine; decide, [key, u], .cons (relV_key (show keyIs k key = true from hkey)) (.cons ru .nil), ⟨_, hT2, rfl, _, rfl⟩⟩
    have I1 : Inv X pins σ (upd H s.heap.objs.size (.tup [kV k, v])) { s with heap := h'' } :=
      I.turnedNew (t' := s.toks) (ch := [it]) (fun b ob hb e => (sb.2 b (by simpa using hb)).trans (hk b ob (by simpa using hb) e)) hf (Nat.le_refl _) new
    refine ⟨.ref s.heap.objs.size, _, I1, rfl, ⟨_, k, v, hkv, rfl, I.hok.fresh (Nat.le_refl _), rfl⟩, ⟨key, u, ?_⟩, fun b hb => ?_⟩
    · rw [hl]; exact he'
    · have e : b = it := by simpa using hb
      rw [e, upd_ne (Nat.ne_of_lt hlt)]
      exact (hf it (by simp)).1
  done := by
    intro X hP hw hK hc i pins s σ H E I hf st hi
    subst hP hw hK
    have hi : kvs.length ≤ i := hi
    obtain ⟨f0, f1, f2, f3, f4, f5⟩ := hf it (by simp)
    obtain ⟨ep', vs, kv, hm⟩ := D.dictAt (P := X.prog) I.kIn
    obtain rfl := hep _ _ _ I.kIn hm
    have hl : kvs.length = vs.length := Paired.length kv
    obtain ⟨ok, ov, he⟩ := st
    rw [hl] at he
    exact wpAny_pyNext_items_end (I.ok.hd hc) he hm (List.getElem?_eq_none (by omega)) fun h' eb => ⟨rfl, I.turned (t' := s.toks) (fun b ob hb e => eb b ob hb e) f0 f1 f3 f4 f5⟩
  self := fun A i s Q E st h => let ⟨_, _, e⟩ := st; PySem.W.kcp_self e h
def iItemsK (w : World) (K : PySem.W.Frag) (td : TE) : TI := fun σ H R => td σ H fun x H1 => ∃ d kvs, x = .ref d ∧ KD w K d kvs ∧ R (ItKD kvs) H1
theorem KD.ep {P : Program} {w : World} {K : PySem.W.Frag} {d : Addr} {kvs : List (Key × V)} {h h' : Heap} {vs vs' : List (Key × Value)} {ep ep' : Nat} (D : KD w K d kvs) (X : K.In h) (X' : K.In h') (a : h.DictAt (mixKind P w) d vs ep) (b : h'.DictAt (mixKind P w) d vs' ep') : ep' = ep := by
  obtain ⟨es, n, hl, _⟩ := D.at_
  obtain ⟨o, es1, h1, _, d1, _⟩ := a
  obtain ⟨o', es2, h2, _, d2, _⟩ := b
  rw [X _ _ hl] at h1
  rw [X' _ _ hl] at h2
  cases h1
  cases h2
  cases d1
  cases d2
  rfl
section
variable {X : Cx} {e : Expr} {td : TE} {apos cpos : Pos}
theorem pi_itemsK {elts : List Expr} {kk : Nat} {tpos : Pos} (he : PE X e td) (hbase : attributeBase e "items" X.env (eval e X.env) = eval e X.env := by rfl) (hline : (apos.endLine == cpos.line) = true := by rfl) :
    PI X (.Tuple elts kk tpos) (.Call (.Attribute e "items" apos) [] [] cpos) (iItemsK X.w X.K td) := by
  refine ⟨fun pins s σ H R I h => ?_⟩
  refine wpAny_Call_method (T := "dict") (id := "dict.items") hbase rfl hline F.plainAttrs_dict F.slot_dict_items F.type_dict_items (thn (he.run pins s σ H _ I h) fun u s1 ⟨x, H1, I1, rx, d, kvs, ex, D, q⟩ => ?_)
  subst ex
  obtain rfl : u = Value.ref d := rx
  obtain ⟨ep, vs, kv, hm⟩ := D.dictAt (P := X.prog) I1.kIn
  have hl : kvs.length = vs.length := Paired.length kv
  refine ⟨hm.dictOf.typeIs, hm.dictOf.mapOf.noDict, ?_⟩
  have I2 : Inv X pins σ H1 { s1 with heap := s1.heap.push { cls := .type "dict_items", data := .fields #[.ref d] } } := I1.kept (t' := s1.toks) fun b ob q => Heap.get?_push_of_some _ q
  have fin : wpAny (model X.prog X.w) X.A (pyIter (.ref s1.heap.objs.size)) (PIE X pins σ (.Tuple elts kk tpos) R) X.xe { s1 with heap := s1.heap.push { cls := .type "dict_items", data := .fields #[.ref d] } } := by
    refine wpAny_pyIter_items (d := d) (knd := mixKind X.prog X.w) ⟨_, Heap.get?_push_size _ rfl, rfl, rfl⟩ (hm.push _) (pi_one (tk := s1.toks) I2 _ (turn_kd D (fun h vs' ep' Xh a => D.ep I1.kIn Xh hm a) _) ⟨.none, .none, ?_⟩ q)
    rw [hl]
    exact Heap.get?_push_size _ rfl
  show wpAny _ _ (callWith cpos (.builtin "dict.items") [.ref d] [] []) _ X.xe s1
  exact method_meetsIn F.slot_dict_items F.entry_dict_items rfl (PySem.evalArgs_none ⟨rfl, hm.dictOf.typeIs, F.args_dict_items_1 _, _, meets_dict_items (mixKind X.prog X.w) d D.low, ⟨vs, hm.dictOf⟩, fin⟩)
end
end Kb
set_option Elab.async false
set_option linter.all false
set_option maxRecDepth 100000
set_option maxHeartbeats 2000000
namespace Kb
open PySem PySem.Spec PyProof.Rows L2 LamX
/-- all but P's table stays -/
def ExtP (P : Addr) (H H' : Hp) : Prop := ∀ b o, b ≠ P → H b = some o → H' b = some o
section
variable {X : Cx} {pins : List (Addr × Obj)} {σ : L2.St} {H : Hp} {s : Shared}
theorem lam_make1 {c P : Addr} {params : Arguments} {body : Expr} {scope : Scope} {pos : Pos} {E : Value → Shared → Prop} {Q : Value → Shared → Prop} (I : Inv X pins σ H s) (TB : TabB X.base X.mg c P) (hcode : X.env.code = .ref c)
    (hT : TabS H P (X.env.qual ++ "<lambda>")) (hdef : defaultsOf params X.env = ([], [])) (hfree : ∀ y ∈ scope.names, y.2 = .free → ∃ c, X.env.cells.lookup y.1 = some c)
    (h : ∀ (f c' : Addr) (pm ctv : Value) (H1 : Hp) (s' : Shared), Inv X pins σ H1 s' → ExtP P H H1 → TabS H1 P (X.env.qual ++ "<lambda>") →
      s'.heap.get? f = some (PySem.W.kla_obj "<lambda>" (X.env.qual ++ "<lambda>") params body scope (cloFrom X.env.cells scope.names []) pm c' ctv) → H1 f = none → f ∉ frs X.stack → H1 c' = some (CodeO c' (X.env.qual ++ "<lambda>")) → Q (.ref f) s') :
    wpAny (model X.prog X.w) X.A (eval (.Lambda params body scope pos) X.env) Q E s := by
  obtain ⟨ps, hP, ht, ha⟩ := id hT
  refine PySem.W.kla_eval hdef ?_
  have bP : s.heap.BuiltinsAt X.mg P := TB.bm.keeps I.bk
  have hP' : s.heap.get? P = some { cls := .none, data := .fields ps } := I.hok P _ hP
  have nofr : ∀ f, s.heap.objs.size ≤ f → f ∉ frs X.stack := fun f hf z => by
    rcases List.mem_cons.mp (I.stkSub _ z) with e | e
    · have h1 := I.lt
      rw [← e] at h1
      exact Nat.lt_irrefl _ (Nat.lt_of_lt_of_le h1 hf)
    · exact I.nofs hf e
  cases hc : codeAmong pos ps.toList with
  | none =>
    refine PySem.W.kla_makeFunction (mg := X.mg) (c := c) (P := P) (ps := ps) (closure_ok hfree) I.ok.glob (I.mod.glob.keeps I.bk) hcode (TB.code.keeps I.bk) hP' ht hc TB.gP bP fun c' ctv h' tk hx hge hlt hrec htb => ?_
    obtain ⟨c2, oc, vs, t, e2, hoc, hd, hv⟩ := hrec
    cases e2
    have hsz : s.heap.objs.size ≤ h'.objs.size := Nat.le_trans hge (Nat.le_of_lt hlt)
    have nC : H c' = none := I.hok.fresh hge
    have I1 := inv_table (t' := tk) (more := #[rawInt pos.line, rawInt pos.col, .ref c']) (h' := h'.push (PySem.W.kla_obj "<lambda>" (X.env.qual ++ "<lambda>") params body scope (cloFrom X.env.cells scope.names []) ((X.mg "__name__").getD .none) c' ctv)) I hP
      (fun b o hb e => Heap.get?_push_of_some _ (hx b o hb e)) (Heap.get?_push_of_some _ htb) hge ⟨oc, vs, t, Heap.get?_push_of_some _ hoc, hd, hv⟩
    have hE : ExtP P H (upd (upd H P (.tbl (ps ++ #[rawInt pos.line, rawInt pos.col, .ref c']))) c' (CodeO c' (X.env.qual ++ "<lambda>"))) := fun b o n e => by
      rw [upd_ne (ne_of_none e nC), upd_ne n]
      exact e
    have eL : (ps ++ #[rawInt pos.line, rawInt pos.col, .ref c']).toList = ps.toList ++ [rawInt pos.line, rawInt pos.col, .ref c'] := by simp
    refine h h'.objs.size c' ((X.mg "__name__").getD .none) ctv _ _ I1 hE ?_ (Heap.get?_push_size _ rfl) ?_ (nofr _ hsz) upd_same
    · refine ⟨_, by rw [upd_ne (ne_of_none hP nC), upd_same], by rw [eL]; exact PySem.TriplesOk_snoc _ _ _ _ ht, fun p' cv hcv => ?_⟩
      rw [eL] at hcv
      rcases among_app _ ht hcv with z | z
      · obtain ⟨c0, e1, e2⟩ := ha p' cv z
        exact ⟨c0, e1, hE _ _ (fun z => by rw [z, hP] at e2; exact codeO_ne ps (Option.some.inj e2).symm) e2⟩
      · exact ⟨c', z, upd_same⟩
    · have n1 : h'.objs.size ≠ c' := Nat.ne_of_gt hlt
      have n2 : h'.objs.size ≠ P := Nat.ne_of_gt (Nat.lt_of_lt_of_le (Heap.lt_size hP') hsz)
      rw [upd_ne n1, upd_ne n2]
      exact I.hok.fresh hsz
  | some cv =>
    obtain ⟨c', e, hco⟩ := ha pos cv hc
    subst e
    refine PySem.W.kla_makeFunctionHit (mg := X.mg) (c := c) (P := P) (ps := ps) (closure_ok hfree) I.ok.glob (I.mod.glob.keeps I.bk) hcode (TB.code.keeps I.bk) hP' ht hc bP fun ctv h' tk hx hsz => ?_
    have I1 : Inv X pins σ H { s with heap := h'.push (PySem.W.kla_obj "<lambda>" (X.env.qual ++ "<lambda>") params body scope (cloFrom X.env.cells scope.names []) ((X.mg "__name__").getD .none) c' ctv), toks := tk } := I.kept fun b o e => Heap.get?_push_of_some _ (hx b o e)
    exact h h'.objs.size c' ((X.mg "__name__").getD .none) ctv H _ I1 (fun _ _ _ e => e) hT (Heap.get?_push_size _ rfl) (I.hok.fresh hsz) (nofr _ hsz) hco
end
def tLam1 (P : Addr) (q : Str) (TT : (XK → Hp → VK → Prop) → Hp → VK → Prop) (t : XK → TE) : TE := fun σ H Q => TabS H P q ∧ ∀ H1, ExtP P H H1 → TabS H1 P q → TT (fun E H' Q' => t E σ H' Q') H1 Q
section
variable {X : Cx}
theorem pe_lamcall1 {TT : (XK → Hp → VK → Prop) → Hp → VK → Prop} {x a : Str} {g c P : Addr} {k : Nat} {pg : Arguments} {bg : List Stmt} {sg : Scope} {dV kV doc pm cdv ct oc : Value} {an od : Option Addr} {osl : Array (Option Value)} {Ng : List Str}
    {params : Arguments} {body : Expr} {scope : Scope} {t : XK → TE} {p lpos pos : Pos} (hg : Gl X x) (hm : X.mg x = some (.ref g)) (hk : PySem.W.keepIn X.K (.ref g) = true)
    (lk : X.K.lookup g = some ⟨oc, od, .func (PySem.W.fnOf x x pg bg sg dV kV doc pm an cdv ct), osl⟩) (hcg : PySem.W.codeIn X.K cdv x = true) (hb : L2.Binds X.K (PySem.W.fnOf x x pg bg sg dV kV doc pm an cdv ct) [a] []) (Sg : FnScope Ng [a] sg) (hNg : Ng[0]? = some a) (hva : Vis sg a)
    (hG : GivesTo X Ng x sg g cdv bg a (X.env.qual ++ "<lambda>") TT)
    (TB : TabB X.base X.mg c P) (hcode : X.env.code = .ref c) (hr : Room (k + 2) X.A) (L : LamS X.env.scope scope) (hdef : defaultsOf params X.env = ([], []))
    (hbind : ∀ (q : Str) (cl : List (Str × Addr)) (pm cv ctv : Value), bindArgs (PySem.W.kla_fn "<lambda>" q params body scope cl pm cv ctv) ⟨[], []⟩ = pure [])
    (hbody : ∀ (A : Around) (outer : List Env) (s : Shared) (H : Hp) (E : XK) (f c' : Addr), Room k (A.deeper (lamEnv X scope s.heap.objs.size f c')) → PE (lamCx X A outer s H E scope f c') body (t E))
    (hdb : (x == ("__debug__" : Str)) = false := by decide) (hd : (a == ("__debug__" : Str)) = false := by decide) (hcd : (a == ("__classdict__" : Str)) = false := by decide) :
    PE X (.Call (.Name x p) [.Lambda params body scope lpos] [] pos) (tLam1 P (X.env.qual ++ "<lambda>") TT t) := by
  refine ⟨fun pins s σ H Q I h => ?_⟩
  obtain ⟨hT, h⟩ := h
  refine wpAny_Call_Name_kw (ld_glob I hg hm ?_ hdb)
  refine PySem.W.callWith_K (h₀ := X.base) I.ok.mod.kin hk ?_ (by rfl) (by rfl)
  show wpAny _ _ (spliced ((false, eval (.Lambda params body scope lpos) X.env) :: backTo pos (starEach [] X.env))) _ _ s
  refine Calls.spliced_cons (lam_make1 I TB hcode hT hdef (L.has I.ok) fun f c' pm' ctv H1 s' I1 eN T1 hf hfn hfr hco => ?_)
  refine Calls.spliced_nil ⟨I1.kIn, ?_⟩
  have rc : codeAny (model X.prog X.w) X.A (.call (.ref g) ⟨[.ref f], []⟩) (CR C8.CX0 X.stack X.prog X.w H1 s' Q C8.E0) s' := by
    refine run_ofS (N := Ng) (ps := [a]) (us := [.ref f]) (vs := [.ref f]) lk hcg Sg hr I1.env0 (hb s' [.ref f] I1.kIn rfl) (.cons rfl .nil) rfl fun hr' => ?_
    obtain ⟨t', ht', hq'⟩ := hG f c' s' H1 Q (fun E H' Q' => t E σ H' Q') (fun W pn xe E p1 p2 tk hW => pe_act (i := 0) I1 L hf hfn hfr (hbind _ _ _ _ _) tk hW hr' (fun A outer s H hr2 => hbody A outer s H E f c' hr2) hNg hva hd hcd) hco (h H1 eN T1)
    exact ⟨t', ht'.nox, hq'⟩
  refine wpAny_call (codeAny_mono rc fun r s2 hq => ?_)
  cases r with
  | error e => exact (show False from hq).elim
  | ok fl =>
    cases fl with
    | ret u => exact I1.after hq
    | next => exact False.elim hq
    | brk => exact False.elim hq
    | cont => exact False.elim hq
/-- _law_caught: what the act gives, or the error that it raises -/
def TCaught (K : PySem.W.Frag) (CL : Addr) : (XK → Hp → VK → Prop) → Hp → VK → Prop := fun tl H Q =>
  tl (fun cls d H' => PySem.W.exmOne K cls (.ref CL) = some true ∧ ∀ a, H' a = none → Q (.ref a) (upd H' a (ExV cls d a))) H Q
end
end Kb
set_option Elab.async false
set_option linter.all false
set_option maxRecDepth 100000
set_option maxHeartbeats 2000000
namespace Kb
open PySem PySem.Spec PyProof.Rows L2
/-! ### what walks a list or a tuple -/
def iLT (K : PySem.W.Frag) (tl : TE) : TI := fun σ H R => tl σ H fun x H1 => ∃ a, x = .ref a ∧ (((∃ xs, SqL K H1 a xs) ∧ R (Itl K a) H1) ∨ ((∃ xs, SqT K H1 a xs) ∧ R (Itt K a) H1))
section
variable {X : Cx} {tg : Expr}
theorem pi_LT {l : Expr} {tl : TE} (hl : PE X l tl) : PI X tg l (iLT X.K tl) := by
  refine ⟨fun pins s σ H R I h => ?_⟩
  refine thn (hl.run pins s σ H _ I h) fun v s1 ⟨x, H1, I1, r1, q1⟩ => ?_
  obtain ⟨a, e, ⟨⟨xs, hq⟩, q⟩ | ⟨⟨xs, hq⟩, q⟩⟩ := q1
  · subst e
    cases r1
    obtain ⟨its, rv, p, hz⟩ := I1.list hq
    refine wpAny_pyIter_list p.isList ?_
    refine ⟨s1.heap.objs.size, [s1.heap.objs.size], _, _, H1, rfl, I1.kept (t' := s1.toks) fun b o e => Heap.get?_push_of_some _ e, turn_list a _, ⟨_, Heap.get?_push_size _ rfl, rfl, rfl⟩, fun b hb => ?_, q⟩
    have e : b = s1.heap.objs.size := by simpa using hb
    subst e
    exact I1.fpOk (Nat.le_refl _) (I1.hok.fresh (Nat.le_refl _))
  · subst e
    cases r1
    obtain ⟨its, rv, p, hz⟩ := I1.tuple hq
    refine wpAny_pyIter_tuple (show s1.heap.IsTuple a its.toArray from p) ?_
    refine ⟨s1.heap.objs.size, [s1.heap.objs.size], _, _, H1, rfl, I1.kept (t' := s1.toks) fun b o e => Heap.get?_push_of_some _ e, turn_tuple a _, ⟨_, Heap.get?_push_size _ rfl, rfl, rfl⟩, fun b hb => ?_, q⟩
    have e : b = s1.heap.objs.size := by simpa using hb
    subst e
    exact I1.fpOk (Nat.le_refl _) (I1.hok.fresh (Nat.le_refl _))
end
/-! ### defs by place -/
section
variable {P : Program} {w : World} {K : PySem.W.Frag} {mg : Str → Option Value} {base : Heap} {x qual : Str} {st : Stmt} {f : Addr} {fd : FuncData}
theorem toFun (F : FunD K x qual (defArgs st) (defBody st) (defScope st) [] [] f fd) : Fun K x qual st f fd := by
  obtain ⟨oc, od, dV, kV, doc, pm, an, cdv, ct, osl, e, lk, hcd, hD, hK⟩ := F.ex
  rcases hD with ⟨_, rfl⟩ | ⟨e, _⟩
  · exact ⟨⟨oc, od, kV, doc, pm, an, cdv, ct, osl, e, lk, hcd⟩, F.kp⟩
  · exact absurd rfl e
/-- as Fun.ok, the def's code object known -/
theorem okC {CX : CXT} {N ps : List Str} {k : Nat} {sp : Sp} {c : Addr} (F : Fun K x qual st f fd) (hc : fd.code = .ref c) (S : FnScope N ps (defScope st)) (len : ∀ vs H Q E, sp vs H Q E → vs.length = ps.length)
    (hbody : ∀ (A : Around) (outer : List Env) (s : Shared) (H : Hp) (vs : List V) (Q : VK) (E : XK), Room k (A.deeper (envOfC qual (defScope st) s.heap.objs.size f (.ref c))) → sp vs H Q E →
      ∃ t, PSs (cxOf CX P w K mg base N qual (defScope st) f (.ref c) A outer s H E) (defBody st) t ∧ t { nx := fun _ H' => Q .non H', rt := Q } (start N vs) H) : FnOk P w K mg base CX (k + 1) f fd ps sp := by
  obtain ⟨oc, od, kV, doc, pm, an, cdv, ct, osl, rfl, lk, hcd⟩ := F.ex
  have e : cdv = .ref c := hc
  subst e
  exact fn_of lk hcd S len fun A outer s H vs Q E hr hsp => hbody A outer s H vs Q E hr hsp
theorem okC0 {N ps : List Str} {k : Nat} {sp : Sp} {c : Addr} (F : Fun K x qual st f fd) (hc : fd.code = .ref c) (S : FnScope N ps (defScope st)) (len : ∀ vs H Q E, sp vs H Q E → vs.length = ps.length)
    (hbody : ∀ (A : Around) (outer : List Env) (s : Shared) (H : Hp) (vs : List V) (Q : VK) (E : XK), Room k (A.deeper (envOfC qual (defScope st) s.heap.objs.size f (.ref c))) → sp vs H Q E →
      ∃ t, PSs (cxOf CX0 P w K mg base N qual (defScope st) f (.ref c) A outer s H E).nox (defBody st) t ∧ t { nx := fun _ H' => Q .non H', rt := Q } (start N vs) H) : FnOk P w K mg base CX0 (k + 1) f fd ps sp :=
  okC F hc S len fun A outer s H vs Q E hr hsp => let ⟨t, h, q⟩ := hbody A outer s H vs Q E hr hsp; ⟨t, h.nox, q⟩
end
end Kb
set_option Elab.async false
set_option linter.all false
set_option maxRecDepth 100000
set_option maxHeartbeats 4000000
/-! class X(..): def __init__(self, at): super().__init__(f'at {at}'); self.at = at -/
namespace KbAt
open PySem PySem.W PySem.Calls PyProof.Rows PySem.HandSPX
structure Ps where
  (p0 p1 p2 p3 p4 p5 p6 p7 p8 q1 q2 q3 q4 a1 a2 : Pos)
def prm (z : Ps) : Arguments := { posonlyargs := [], args := [⟨"self", none, z.a1⟩, ⟨"at", none, z.a2⟩], vararg := none, kwonlyargs := [], kw_defaults := [], kwarg := none, defaults := [] }
def s1 (z : Ps) : Stmt := .Expr (.Call (.Attribute (.Call (.Name "super" z.p0) [] [] z.p1) "__init__" z.p2) [.JoinedStr [.Constant (.str "at ") 0 z.p3, .FormattedValue (.Name "at" z.p4) (-1) none z.p5] z.p6] [] z.p7) z.p8
def s2 (z : Ps) : Stmt := .Assign [.Attribute (.Name "self" z.q1) "at" z.q2] (.Name "at" z.q3) z.q4
def sco : Scope := { kind := .function, names := [("self", .local), ("at", .local), ("__class__", .free), ("super", .globalImplicit)], isGenerator := false, isCoroutine := false, more := [] }
/-- what the written part says of such a class, at C, of its __init__, at f, of the cell of its name, at cc -/
structure Txt (P : Program) (K : Frag) (C f cc cda : Addr) (q : Str) (z : Ps) : Prop where
  cls : ∃ nm qn N bs bm sn sub ab col dd k0 k1 k2 k3 k5, K.lookup C = some (excClassObj nm qn C N bs bm true sn sub ab col dd k0 k1 k2 k3 k5 "ValueError.__new__") ∧ refsVE bm = true ∧ alongIn K "__init__" bm = some (some (.builtin "ValueError.__init__"))
  sa : findIn K (.ref C) "__setattr__" = some (some (.builtin "object.__setattr__"))
  noN : findIn K (.ref C) "at" = some none
  iC : findIn K (.ref C) "__init__" = some (some (.ref f))
  tf : typeIn K (.ref f) = some (.type "function")
  kC : keepIn K (.ref C) = true
  exC : subIn K (.ref C) (.type "BaseException") = some true
  veC : subIn K (.ref C) (.type "ValueError") = some true
  self : mroIn K C (.ref C) = some true
  tyC : typeIn K (.ref C) = some (.type "type")
  op : nsIn K cStatics "thirdparty.any" = some none
  fn : ∃ oc od kV doc pm an ct osl, K.lookup f = some ⟨oc, od, .func (ksFn "__init__" q (prm z) [s1 z, s2 z] sco .none kV doc pm an (.ref cda) ct cc), osl⟩
  co : codeIn K (.ref cda) q = true
  fl : ∃ ccl cdd vs ccs file tf, K.lookup cda = some ⟨ccl, cdd, .fields vs, ccs⟩ ∧ vs[2]? = some (.str file tf) ∧ (P.main.file == file) = true
  cell : ∃ cl cld csl, K.lookup cc = some ⟨cl, cld, .cell (some (.ref C)), csl⟩
  ln : (z.p2.endLine == z.p7.line) = true
  top : (P.main.scope.names.lookup ("super" : Str)).isSome = false
/-- what __init__ leaves of a fresh exception at x -/
structure Fin (h h' : Heap) (x C dx t1 : Addr) (v : Value) : Prop where
  keep : ∀ b o, b ≠ x → h.get? b = some o → h'.get? b = some o
  obj : h'.get? x = some { cls := .ref C, dict := some dx, data := .fields #[.ref t1, .none, .none, .none, .bool false, .none] }
  dbig : h.objs.size ≤ dx
  dne : dx ≠ x
  ns : h'.Ns1 dx (fun y => if y = "at" then some v else none)
theorem ldX {M : Model} {s : Shared} {q : Str} {L f cc : Addr} {cd : Value} {m : Str → Option Value} {x : Str} {pos : Pos} {v : Value} {Q : Value → Shared → Prop} {A : Around} {E : Value → Shared → Prop} (hn : s.heap.Ns L m) (hv : m x = some v) (h : Q v s)
    (hl : (ksEnv q sco L f cd cc).kindOf x = some .local := by rfl) (hd : (x == ("__debug__" : Str)) = false := by decide) :
    wpAny M A (eval (.Name x pos) (ksEnv q sco L f cd cc)) Q E s := wpAny_Name (wpAny_loadName_local rfl hl hn hv h) hd
/-- the bound __init__, called -/
theorem call_mw {prog : Program} {w : World} {A : Around} {E : Value → Shared → Prop} {h : Heap} {g : Array GenState} {d : Drawn} {t : Nat} {os : OsState} {nm q : Str} {C N : Addr} {bs bm : List Value} {hdct : Bool} {sn : List Str} {sub : List Value} {ab : Bool} {col : Option Bool} {dd : Option Addr} {k0 k1 k2 k3 k5 : Option Value}
    {u e t0 : Addr} {rest : List Value} {Q : Value → Shared → Prop}
    (hC : h.get? C = some (excClassObj nm q C N bs bm hdct sn sub ab col dd k0 k1 k2 k3 k5 "ValueError.__new__")) (he : h.get? e = some (HandSPX.excO C t0)) (hu : h.get? u = some (kxs_mw "ValueError.__init__" e)) (hrest : rest.length ≤ sizeLine)
    (hq : ∀ h' t1, (∀ b o, b ≠ e → h.get? b = some o → h'.get? b = some o) → h'.get? e = some (HandSPX.excO C t1) → Q .none ⟨h', g, d, t, os⟩) :
    wpAny (model prog w) A (call (.ref u) rest) Q E ⟨h, g, d, t, os⟩ := by
  refine wpAny_call (codeAny_of_tree ?_)
  show wpAny _ A.in1 (callAny (.ref u) ⟨rest, []⟩) _ _ _
  simp only [callAny]
  refine wpAny_bind (wpAny_load hu ?_)
  simp only [kxs_mw, show (Value.type "method-wrapper" == Value.type "method" || Value.type "method-wrapper" == Value.type "builtin_function_or_method" || Value.type "method-wrapper" == Value.type "method-wrapper") = true by decide, if_true]
  refine KFB.if_so (by decide) ?_
  refine wpAny_bind (check_bound_init F.excBase_ValueError.toExcCallFacts hC he rfl (wpAny_bind (wpAny_pure (wpAny_pure ⟨plainId_quiet F.excBase_ValueError.init.plain _, codeAny_builtin F.excBase_ValueError.initEntry ?_⟩))))
  exact exc_init_tree (cls := .ref C) (t0 := t0) (dv := none) (c2 := .none) (c3 := .none) (b4 := .bool false) he hrest fun h' k e' _ => hq h' _ k e'
section
variable {prog : Program} {w : World} {A : Around} {R : Result → Shared → Prop} {s : Shared} {K : Frag} {C f cc cda : Addr} {q : Str} {z : Ps} {mg mb : Str → Option Value}
theorem init (T : Txt prog K C f cc cda q z) {x t0 : Addr} {i : Int} {tk0 : Tok} (X : K.In s.heap) (hlim : s.heap.NoLimit) (hG : s.heap.Ns mainGlobals mg) (hB : s.heap.Ns builtinsNs mb) (hsu : mg "super" = none) (hbb : mb "super" = some (.type "super"))
    (hx : s.heap.get? x = some (excO C t0)) (hnx : K.lookup x = none) (hroom : A.depth < recursionLimit) (hi : i.natAbs.log2 < 1920) (hlen : (("at " : Str) ++ (toString i : Str)).length ≤ sizeLine)
    (hq : ∀ h' tk dx t1, Fin s.heap h' x C dx t1 (.int i tk0) → R (.ok (.ret .none)) { s with heap := h', toks := tk }) :
    codeAny (model prog w) A (.call (.ref f) ⟨[.ref x, .int i tk0], []⟩) R s := by
  obtain ⟨oc, od, kV, doc, pm, an, ct, osl, ho⟩ := T.fn
  obtain ⟨nm, qn, N, bs, bm, sn, sub, ab, col, dd, k0, k1, k2, k3, k5, hC, hbm, hal⟩ := T.cls
  obtain ⟨ccl, cdd, vs, ccs, file, tf, hcode, hvs, hfile⟩ := T.fl
  obtain ⟨cl, cld, csl, hcell⟩ := T.cell
  have hcl : clsIn K C = some { name := nm, bases := bs, mro := .ref C :: bm, ns := N, qualname := qn, hasDict := true, slotNames := sn, subclasses := sub, abstract := ab, collection := col, hasDel := false } := by unfold clsIn; rw [hC] <;> rfl
  refine ks_codeAny_call_defAt (fd := ksFn "__init__" q (prm z) [s1 z, s2 z] sco .none kV doc pm an (.ref cda) ct cc) (body := [s1 z, s2 z]) (binds := [("self", .ref x), ("at", .int i tk0)]) hroom (X _ _ ho) rfl hlim (codeRec_of X T.co) rfl
    (BindsTo.of_eq (by first | rfl | with_unfolding_all rfl)) (show ∀ y ∈ sco.names, y.2 ≠ .cell by decide) (fun y hy => ?_) (fun h₁ hns k => ?_) rfl rfl rfl
  · rcases List.mem_cons.mp hy with e | e
    · rw [e] <;> rfl
    · rw [List.mem_singleton.mp e] <;> rfl
  have X₁ : K.In h₁ := X.keeps k
  have hx₁ := k _ _ hx
  have hL : s.heap.objs.size ≠ x := Nat.ne_of_gt (Heap.lt_size hx)
  show _root_.PySem.wpAt _ _ _ (execs [s1 z, s2 z] (ksEnv q sco s.heap.objs.size f (.ref cda) cc)) _ _ _
  have hpos : methodCallPos true (.Call (.Name "super" z.p0) [] [] z.p1) (ksEnv q sco s.heap.objs.size f (.ref cda) cc) z.p2 z.p7 = pure z.p7 := by
    unfold methodCallPos
    simp [T.ln]
  obtain ⟨PL, hcall⟩ : ∃ PL, eval (.Call (.Attribute (.Call (.Name "super" z.p0) [] [] z.p1) "__init__" z.p2) [.JoinedStr [.Constant (.str "at ") 0 z.p3, .FormattedValue (.Name "at" z.p4) (-1) none z.p5] z.p6] [] z.p7) (ksEnv q sco s.heap.objs.size f (.ref cda) cc) = (do
      let ov ← attributeBase (.Call (.Name "super" z.p0) [] [] z.p1) "__init__" (ksEnv q sco s.heap.objs.size f (.ref cda) cc) (eval (.Call (.Name "super" z.p0) [] [] z.p1) (ksEnv q sco s.heap.objs.size f (.ref cda) cc))
      standAt z.p2.atName
      let (fx, first) ← holding [ov] (getMethod ov "__init__" PL)
      callWith z.p7 fx first (backTo z.p7 (starEach [.JoinedStr [.Constant (.str "at ") 0 z.p3, .FormattedValue (.Name "at" z.p4) (-1) none z.p5] z.p6] (ksEnv q sco s.heap.objs.size f (.ref cda) cc))) []) := by
    refine ⟨(do return (← importBound (.Call (.Name "super" z.p0) [] [] z.p1) (ksEnv q sco s.heap.objs.size f (.ref cda) cc)).getD true), ?_⟩
    rw [arm_eval_Call]
    unfold methodCall calleeOf
    have hform : methodCallForm (([.JoinedStr [.Constant (.str "at ") 0 z.p3, .FormattedValue (.Name "at" z.p4) (-1) none z.p5] z.p6] : List Expr).length + ([] : List Keyword).length) (backTo z.p7 (starEach [.JoinedStr [.Constant (.str "at ") 0 z.p3, .FormattedValue (.Name "at" z.p4) (-1) none z.p5] z.p6] (ksEnv q sco s.heap.objs.size f (.ref cda) cc))) (backToKw z.p7 (keywordEach [] (ksEnv q sco s.heap.objs.size f (.ref cda) cc))) = true := rfl
    rw [hform, hpos]
    rfl
  refine ks_wpAt_execs_cons (ks_wpAt_Expr_any (ks_wpAt_MethodCall (pl := PL) ?_ hcall))
  -- super()
  refine ks_wpAt_super_base (env := ksEnv q sco s.heap.objs.size f (.ref cda) cc) rfl rfl (by decide) rfl (X₁ _ _ ho) rfl rfl rfl (X₁ _ _ hcode) rfl hvs hfile T.top ?_
  refine ks_loadName_global rfl rfl (loadGlobal_builtin (env := ksEnv q sco s.heap.objs.size f (.ref cda) cc) (hG.keeps k) hsu (hB.keeps k) hbb ⟨rfl, ?_⟩)
  refine wpAny_loadName_free rfl rfl rfl ⟨_, X₁ _ _ hcell, rfl⟩ ?_
  refine wpAny_loadName_local (name := "self") (m := fun y => ([("self", Value.ref x), ("at", .int i tk0)] : List (Str × Value)).reverse.lookup y) rfl rfl hns rfl ?_
  refine ks_wpAny_isType_cls (X₁ _ _ hC) rfl ⟨rfl, ?_⟩
  refine ks_wpAny_call_super (C := C) (X₁ _ _ hC) rfl hx₁ rfl (fun c e => by cases e) (looks_mroIn X₁ T.self) (fun h₂ hso k₂ => ?_)
  have X₂ : K.In h₂ := X₁.keeps k₂
  have hx₂ := k₂ _ _ hx₁
  -- .__init__
  have hxC : x ≠ C := fun e => by
    rw [e] at hnx
    rw [hnx] at hC
    cases hC
  refine kxs_getMethod (K := K) (D := C) (x := x) (C := C) kxs_ValueError hso (looks_opaque X₂ T.op) (l₀ := .ref C :: bm) (l := bm) (fun A Q E s k q => wpAny_bind ((looks_clsIn X₂ hcl) A _ E s k (wpAny_pure q))) ?_ X₂ hal ?_ hxC (by decide) ?_
  · rw [List.dropWhile_cons]
    simp
  · have J : InstAt h₂ x (excO C t0) C none := ⟨hx₂, rfl, rfl, trivial⟩
    exact J.type.andThen (looks_subIn X₂ T.veC)
  have hmw : (h₂.push (kxs_mw "ValueError.__init__" x)).get? h₂.objs.size = some (kxs_mw "ValueError.__init__" x) := Heap.get?_push_at rfl rfl
  have up3 : ∀ b o, h₂.get? b = some o → (h₂.push (kxs_mw "ValueError.__init__" x)).get? b = some o := fun b o e => Heap.get?_push_of_some _ e
  show wpAny _ _ (callWith _ (.ref h₂.objs.size) [] _ []) _ _ _
  refine kxs_callWith (i := "ValueError.__init__") (x := x) rfl (evalArgs_plain ?_)
  -- f'at {at}'
  refine spliced_cons (wpAny_JoinedStr (pos := z.p6) ?_)
  have keep₂ : ∀ b o, s.heap.get? b = some o → h₂.get? b = some o := fun b o e => k₂ b o (k b o e)
  have hns₃ : (h₂.push (kxs_mw "ValueError.__init__" x)).Ns s.heap.objs.size (fun y => ([("self", Value.ref x), ("at", .int i tk0)] : List (Str × Value)).reverse.lookup y) := (hns.keeps k₂).keeps up3
  show wpAny _ _ (eval (.Constant (.str "at ") 0 z.p3) _) _ _ _
  refine Constant_str ⟨"at ", _, rfl, ?_, ?_⟩
  · show (3 : Nat) ≤ sizeLine
    rw [sizeLine_eq]
    decide
  show wpAny _ _ (eval (.FormattedValue (.Name "at" z.p4) (-1) none z.p5) _) _ _ _
  refine wpAny_FormattedValue_plain (ldX (v := .int i tk0) hns₃ rfl (wpAny_formatField_int hi ⟨toString i, _, rfl, hlen, ?_⟩))
  refine ⟨hlen, spliced_nil ⟨hmw, ?_⟩⟩
  refine call_mw (up3 _ _ (X₂ _ _ hC)) (up3 _ _ hx₂) hmw (by show 1 ≤ sizeLine; rw [sizeLine_eq]; decide) fun h₄ t1 k₄ hx₄ => ?_
  -- self.at = at
  have k₀₄ : ∀ b o, b ≠ x → s.heap.get? b = some o → h₄.get? b = some o := fun b o hb e => k₄ b o hb (up3 _ _ (keep₂ _ _ e))
  have X₄ : K.In h₄ := fun b o e => k₄ b o (fun ez => by rw [ez, hnx] at e; cases e) (up3 _ _ (X₂ _ _ e))
  have hns₄ : h₄.Ns s.heap.objs.size (fun y => ([("self", Value.ref x), ("at", .int i tk0)] : List (Str × Value)).reverse.lookup y) := by
    obtain ⟨o, es, ep, e1, e2⟩ := hns₃
    exact ⟨o, es, ep, k₄ _ _ hL e1, e2⟩
  refine wpAt_of_wpAny (wpAny_execs_cons (plainObj_wpAny_Assign_Attribute ?_))
  refine ldX (v := .int i tk0) hns₄ rfl (ldX (v := .ref x) hns₄ rfl ?_)
  refine set_plain X₄ (ox := excO C t1) (od := none) ⟨hx₄, rfl, rfl, trivial⟩ T.sa ?_
  refine exc_osa X₄ hx₄ hcl (show refsVE (.ref C :: bm) = true from hbm) rfl T.noN (fun h₅ tk₅ dx k₅ dn dne hx₅ hn₅ => ?_)
  refine wpAny_execs_nil (hq h₅ tk₅ dx t1 ⟨fun b o hb e => k₅ b o hb (k₀₄ b o hb e), hx₅, ?_, dne, hn₅⟩)
  refine Nat.le_trans ?_ dn
  exact Nat.le_of_lt hns₄.lt
/-- a made one -/
structure Made (h h' : Heap) (e C d : Addr) (v : Value) : Prop where
  keep : ∀ b o, h.get? b = some o → h'.get? b = some o
  new : h.objs.size ≤ e
  obj : ∃ oe vs, h'.get? e = some oe ∧ oe.cls = .ref C ∧ oe.dict = some d ∧ oe.data = .fields vs ∧ vs[1]? = some .none
  dbig : h.objs.size ≤ d
  dne : d ≠ e
  ns : h'.Ns1 d (fun y => if y = "at" then some v else none)
theorem made (T : Txt prog K C f cc cda q z) {i : Int} {tk0 : Tok} (X : K.In s.heap) (hlim : s.heap.NoLimit) (hG : s.heap.Ns mainGlobals mg) (hB : s.heap.Ns builtinsNs mb) (hsu : mg "super" = none) (hbb : mb "super" = some (.type "super"))
    (hroom : A.depth + 1 < recursionLimit) (hi : i.natAbs.log2 < 1920) (hlen : (("at " : Str) ++ (toString i : Str)).length ≤ sizeLine)
    (hq : ∀ h' tk e d, Made s.heap h' e C d (.int i tk0) → R (.ok (.ret (.ref e))) { s with heap := h', toks := tk }) :
    codeAny (model prog w) A (.call (.ref C) ⟨[.int i tk0], []⟩) R s := by
  obtain ⟨nm, qn, N, bs, bm, sn, sub, ab, col, dd, k0, k1, k2, k3, k5, hC, hbm, _⟩ := T.cls
  obtain ⟨hp, g, dr, tk, os⟩ := s
  have k : ∀ b o, hp.get? b = some o → ((hp.push (kdv_tup [.int i tk0])).push (excO C hp.objs.size)).get? b = some o := fun b o e => Heap.get?_push_of_some _ (Heap.get?_push_of_some _ e)
  have hget : ((hp.push (kdv_tup [.int i tk0])).push (excO C hp.objs.size)).get? (hp.objs.size + 1) = some (excO C hp.objs.size) := by heap_get
  have hnx : K.lookup (hp.objs.size + 1) = none := by
    cases e : K.lookup (hp.objs.size + 1) with
    | none => rfl
    | some o =>
      have y : hp.get? (hp.objs.size + 1) = some o := X _ _ e
      exact absurd (Nat.lt_of_succ_lt (Heap.lt_size y)) (Nat.lt_irrefl _)
  refine call_own F.excBase_ValueError (fun Y => refsVE_contains Y bm hbm) (X _ _ hC) (looks_findIn X T.iC) (fun self => bind_fn X self T.tf) (by show 1 ≤ sizeLine; rw [sizeLine_eq]; decide) ?_
  refine init (s := ⟨(hp.push (kdv_tup [.int i tk0])).push (excO C hp.objs.size), g, dr, tk, os⟩) T (X.keeps k) (hlim.keeps k) (hG.keeps k) (hB.keeps k) hsu hbb hget hnx hroom hi hlen fun h' tk' dx t1 Y => ?_
  have old : ∀ b o, hp.get? b = some o → h'.get? b = some o := fun b o e => Y.keep b o (Nat.ne_of_lt (Nat.lt_succ_of_lt (Heap.lt_size e))) (k b o e)
  have big : hp.objs.size + 1 + 1 ≤ dx := by
    first
      | (simpa only [Heap.size_push] using Y.dbig)
      | exact Y.dbig
  exact ⟨rfl, hq h' tk' (hp.objs.size + 1) dx ⟨old, Nat.le_succ _, ⟨_, _, Y.obj, rfl, rfl, rfl, rfl⟩, Nat.le_trans (Nat.le_trans (Nat.le_succ _) (Nat.le_succ _)) big, Y.dne, Y.ns⟩⟩
end
end KbAt
set_option Elab.async false
set_option linter.all false
set_option maxRecDepth 100000
set_option maxHeartbeats 4000000
namespace KbAt
open PySem PySem.Spec PyProof.Rows L2 Kb
theorem relO_at {v : V} {u : Value} (r : RelV v u) (y : Str) : RelO (List.lookup y [(("at" : Str), v)]) (if y = "at" then some u else none) := by
  by_cases hw : y = "at"
  · rw [hw, if_pos rfl]
    have e : List.lookup ("at" : Str) [(("at" : Str), v)] = some v := by simp [List.lookup]
    rw [e]
    exact r
  · rw [if_neg hw]
    have e : (y == ("at" : Str)) = false := by simpa using hw
    have e2 : List.lookup y [(("at" : Str), v)] = none := by simp [List.lookup, e]
    rw [e2]
    trivial
/-- a number whose text fits -/
def Fits (i : Int) : Prop := i.natAbs.log2 < 1920 ∧ (("at " : Str) ++ (toString i : Str)).length ≤ sizeLine
theorem fits_of {i : Int} (h : i.natAbs.log2 < 1001) : Fits i := by
  have h1 := h
  refine ⟨Nat.lt_trans h1 (by decide), ?_⟩
  have e := int_text_length_le (k := 1001) (by decide) h1
  have e2 : (("at " : Str) ++ (toString i : Str)).length = 3 + (Str.ofString (toString i)).length := by
    show (("at " : Str) ++ (Str.ofString (toString i))).length = _
    rw [Str.length_append]
    rfl
  rw [e2, PySem.ofString_length, sizeLine_eq]
  omega
section
variable {X : Cx} {C f cc cda : Addr} {q nm : Str} {z : Ps}
/-- X(e) -/
def tMk (C : Addr) (ta : TA) : L2.St → Hp → XK → Prop := fun σ H Q => ta σ H fun vs H1 => ∃ i, vs = [.int i] ∧ Fits i ∧ ∀ d, H1 d = none → Q (.ref C) (some d) (upd H1 d (.xd [("at", .int i)]))
theorem pmk {a : Expr} {ta : TA} {p pos : Pos} {k : Nat} (T : Txt X.prog X.K C f cc cda q z) (hm : X.mg nm = some (.ref C)) (hs : X.mg "super" = none) (hr : Room (k + 1) X.A) (ha : PA X [a] ta) (hg : Gl X nm) (hdb : (nm == ("__debug__" : Str)) = false := by decide)
    (he : starEach (a :: []) X.env = (false, eval a X.env) :: starEach [] X.env := by rfl) (hpl : (backTo pos (starEach [] X.env)).any (·.1) = false := by rfl) :
    PMk X (.Call (.Name nm p) [a] [] pos) (tMk C ta) := by
  intro pins s σ H Q I h
  refine wpAny_Call_Name_kw (ld_glob I hg hm ?_ hdb)
  refine PySem.W.callWith_K (h₀ := X.base) I.ok.mod.kin T.kC (thn (ha.run pos pins s σ H _ I h) fun us s1 ⟨vs, H1, I1, r1, i, ev, hf, q1⟩ => ?_) he hpl
  subst ev
  refine ⟨I1.kIn, ?_⟩
  cases r1 with
  | @cons _ v' _ us' rv rn =>
    cases rn
    obtain ⟨tk0, ev⟩ : ∃ t : Tok, v' = Value.int i t := rv
    subst ev
    have rv : RelV (.int i) (Value.int i tk0) := ⟨tk0, rfl⟩
    have hlim := I1.nolimit
    obtain ⟨mb, hb1, hb2⟩ := I1.mod.blt
    have hG := I1.mod.glob.keeps I1.bk
    have hB := hb1.keeps I1.bk
    have hkin := I1.kIn
    obtain ⟨hp, g, dr, tk, os⟩ := s1
    refine wpAny_call (made T hkin hlim hG hB hs ((hb2 _ (by decide)).trans (by first | rfl | decide +kernel | kernel_rfl)) (by have := hr.dp; omega) hf.1 hf.2 fun h' tk' e d M => ?_)
    show MkP X pins σ Q (.ref e) ⟨h', g, dr, tk', os⟩
    obtain ⟨oe, fv, hoe, hc, hd, hdat, h1⟩ := M.obj
    have hns := M.ns
    obtain ⟨G', g1, g2⟩ := restrict h' fun b => decide (b ≠ e)
    have gk : ∀ b, b ≠ e → G'.get? b = h'.get? b := fun b hb => g1 b (decide_eq_true hb)
    have ge : G'.get? e = none := g2 e (by simp)
    have old : ∀ b o, hp.get? b = some o → G'.get? b = some o := fun b o y => (gk b (Nat.ne_of_lt (Nat.lt_of_lt_of_le (Heap.lt_size y) M.new))).trans (M.keep b o y)
    have ob : ObjOk X.prog X.w (upd H1 d (.xd [(("at" : Str), .int i)])) G' d (.xd [(("at" : Str), .int i)]) :=
      ⟨_, hns.at (fun o y => (gk d M.dne).trans y), fun y => relO_at rv y⟩
    have J : Inv X pins σ (upd H1 d (.xd [(("at" : Str), .int i)])) ⟨G', g, dr, tk', os⟩ := I1.laid (t' := tk') old M.dbig ob
    refine ⟨e, oe, fv, ⟨G', g, dr, tk', os⟩, _, .ref C, some d, rfl, J, fun b o y => ?_, ge, hoe, ⟨hc, hd⟩, hdat, h1, ?_, rfl, I1.bare, raises_own T.exC T.tyC, q1 d (I1.hok.fresh M.dbig)⟩
    · by_cases hb : b = e
      · have y' : G'.get? b = some o := y
        rw [hb, ge] at y'
        cases y'
      · exact (gk b hb).symm.trans y
    · rw [upd_ne (Ne.symm M.dne)]
      exact I1.hok.fresh M.new
/-- told.at, told an exception of the class C that was caught, held as a value; its dict at d -/
def tAt (K : PySem.W.Frag) (te : TE) : TE := fun σ H Q => te σ H fun x H1 => ∃ (a C d : Addr) (v : V), x = .ref a ∧ H1 a = some (ExV (.ref C) (some d) a) ∧ H1 d = some (.xd [("at", v)]) ∧ PySem.W.findIn K (.ref C) "__getattribute__" = some (some (.builtin "BaseException.__getattribute__")) ∧
  PySem.W.findIn K (.ref C) "__getattr__" = some none ∧ PySem.W.findIn K (.ref C) "at" = some none ∧ PySem.W.hasDictIn K C = true ∧ PySem.W.subIn K (.ref C) (.type "BaseException") = some true ∧ Q v H1
theorem pe_at {e : Expr} {te : TE} {pos : Pos} (he : PE X e te) (hb : attributeBase e "at" X.env (eval e X.env) = eval e X.env := by rfl) : PE X (.Attribute e "at" pos) (tAt X.K te) := by
  refine ⟨fun pins s σ H Q I h => ?_⟩
  refine attr_of hb (thn (he.run pins s σ H _ I h) fun u s1 ⟨x, H1, I1, rx, a, C, d, v, ex, ha, ed, ga, gg, gn, hdC, exC, q⟩ => ?_)
  subst ex
  obtain rfl : u = Value.ref a := rx
  obtain ⟨⟨oe, vs, hget, hz, hd⟩, _, _⟩ := I1.hok a _ ha
  have hx : ObjOk X.prog X.w H1 s1.heap d (.xd [(("at" : Str), v)]) := I1.hok d _ ed
  obtain ⟨mA, hns, hr⟩ := hx
  obtain ⟨od, ho, hl⟩ := lookIn_ns hns
  have l : List.lookup ("at" : Str) [(("at" : Str), v)] = some v := by simp [List.lookup]
  obtain ⟨u, hu, ru⟩ := RelO.some_of (v := v) (o := mA "at") (by rw [← l]; exact hr "at")
  have J : PySem.W.InstAt s1.heap a oe C (some od) := ⟨hget, hz.1, by unfold PySem.W.notCls; rw [hd] <;> rfl, by rw [hz.2]; exact ho⟩
  exact HandSPX.exc_get I1.kIn J ga gg exC (PySem.W.findObj_own hdC gn rfl (by rw [hl, hu])) (handed_of ru) ⟨v, H1, I1.tok _, ru, q⟩
/-- isinstance(e, c), e an exception with a dict of its own, held as a value -/
def rIsD (K : PySem.W.Frag) : List V → Hp → VK → Prop := fun xs H Q => ∃ (a D d : Addr) (fs : List (Str × V)) (c : V) (cv : Value) (b : Bool), xs = [.ref a, c] ∧ H a = some (ExV (.ref D) (some d) a) ∧ H d = some (.xd fs) ∧ ExcC K D ∧ (∀ u, RelV c u → u = cv) ∧ PySem.W.kitOne K (.ref D) cv = some b ∧ Q (.bl b) H
theorem call_isD : CallR X (.builtin "isinstance") (rIsD X.K) := by
  intro pins s σ H xs us Q I r h
  obtain ⟨a, D, d, fs, c, cv, b, rfl, ha, hd, C, hcv, e, q⟩ := h
  cases r with
  | cons rx rr =>
    cases rr with
    | cons rt rr =>
      cases rr
      cases rx
      have ec := hcv _ rt
      subst ec
      obtain ⟨⟨oe, vs, hget, hz, hv⟩, _, _⟩ := I.hok a _ ha
      have hx : ObjOk X.prog X.w H s.heap d (.xd fs) := I.hok d _ hd
      obtain ⟨mA, hns, hr⟩ := hx
      obtain ⟨od, ho, _⟩ := lookIn_ns hns
      have J : PySem.W.InstAt s.heap a oe D (some od) := ⟨hget, hz.1, by unfold PySem.W.notCls; rw [hv] <;> rfl, by rw [hz.2]; exact ho⟩
      have hcl : (PySem.W.clsIn X.K D).isSome = true := by
        obtain ⟨cd, hc, _⟩ := PySem.W.any_some C.hd
        rw [hc]
        rfl
      exact PySem.W.kia_one (PySem.W.kitx_exc hcl C.hg C.hk C.hs C.ha C.hn C.ht C.hm) I.kIn J e (fun z => nomatch z) fun tk => ⟨.bl b, H, I.kept (t' := tk) fun _ _ z => z, rfl, q⟩
end
end KbAt
set_option Elab.async false
set_option linter.all false
set_option maxRecDepth 100000
set_option maxHeartbeats 4000000
/-! the head's facts with defs that close over their class -/
namespace KbHk
open PySem PySem.W PySem.Calls PyProof.Rows L2 Kb
abbrev FnC : Type := Option (Str × Str × Arguments × FuncBody × Scope × Addr × Addr)
/-- a def but for what it closes over -/
def fnC (K : Frag) (p : Str × Option Str) : FnC := match K.lookup (He.fAd K p) with
  | some ⟨_, _, .func fd, _⟩ => some (fd.name, fd.qualname, fd.params, fd.body, fd.scope, fd.globals, fd.builtins)
  | _ => none
/-- what is reached, the statics too -/
def asS (g : Addr → Option Obj) (n : Nat) : List Addr := cStatics :: He.asD g n
def obsS (n : Nat) (fa : List He.Fa) (fn : List He.DefD) (ts : List He.Tab) (tf : List He.Defn) (ex : Frag → Bool) (g : Addr → Option Obj) : He.AlX := (He.obsT fa fn ts (He.frT g (asS g n)), ex (He.frT g (asS g n)) && He.tabsB g tf (He.frT g (asS g n)))
theorem says_of {n : Nat} {fa : List He.Fa} {fn : List He.DefD} {ts : List He.Tab} {tf : List He.Defn} {ex : Frag → Bool} {w : World} {h : Heap} (e : obsS n fa fn ts tf ex h.get? = He.valX fn ts w) : He.SaysX fa fn ts tf ex w h (He.frT h.get? (asS h.get? n)) := by
  have e1 : He.obsT fa fn ts (He.frT h.get? (asS h.get? n)) = He.valT fn ts w := congrArg Prod.fst e
  have e2 : (ex (He.frT h.get? (asS h.get? n)) && He.tabsB h.get? tf (He.frT h.get? (asS h.get? n))) = true := congrArg Prod.snd e
  obtain ⟨h1, h2⟩ := Bool.and_eq_true_iff.mp e2
  have key : ∀ p ∈ tf, codeHdIn (He.frT h.get? (asS h.get? n)) (He.cT (He.frT h.get? (asS h.get? n)) p).1 (He.cT (He.frT h.get? (asS h.get? n)) p).2 = true ∧ ∃ o, h.get? (He.cT (He.frT h.get? (asS h.get? n)) p).2 = some o ∧ He.emptyTab o = true := fun p hp => by
    obtain ⟨h3, h4⟩ := Bool.and_eq_true_iff.mp (List.all_eq_true.mp h2 p hp)
    cases q : h.get? (He.cT (He.frT h.get? (asS h.get? n)) p).2 with
    | none =>
      rw [q] at h4
      cases h4
    | some o =>
      rw [q] at h4
      exact ⟨h3, o, rfl, h4⟩
  refine ⟨e1, h1, fun p hp => (key p hp).1, fun p hp => ?_, fun p hp => ?_⟩
  · obtain ⟨_, o, q, y⟩ := key p hp
    exact He.frT_none q y
  · obtain ⟨_, o, q, y⟩ := key p hp
    rw [q, He.emptyTab_eq y]
def hookM (n : Nat) (fa : List He.Fa) (fn : List He.DefD) (ts : List He.Tab) (tf : List He.Defn) (ex : Frag → Bool) (ms : List (Str × Option Str)) (mv : List FnC) : Hook where
  α := He.AlX × List FnC
  obs := fun s => (obsS n fa fn ts tf ex s.heap.get?, ms.map fun p => fnC (He.frT s.heap.get? (asS s.heap.get? n)) p)
  val := fun w => (He.valX fn ts w, mv)
  says := fun w h => ∃ K : Frag, K.In h ∧ He.SaysX fa fn ts tf ex w h K ∧ ms.map (fnC K) = mv
  of := fun _ _ e => ⟨_, He.frT_in, says_of (congrArg Prod.fst e), congrArg Prod.snd e⟩
  keeps := fun _ _ _ ⟨K, hK, c, e⟩ k => ⟨K, Frag.In.keeps hK k, ⟨c.t, c.more, c.hd, c.out, fun p hp => k _ _ (c.empty p hp)⟩, e⟩
/-! ### an error class with at -/
def clsB (K : Frag) (C : Addr) : Bool := match K.lookup C with
  | some ⟨.type t, _, .cls cd, sl⟩ => decide (t = "type") && (match cd.mro, sl.toList with
    | .ref C' :: bm, [_, _, _, _, some (.builtin n), _] => decide (C' = C) && (decide (n = "ValueError.__new__") && (cd.hasDict && (!cd.hasDel && (HandSPX.refsVE bm && He.eqO (alongIn K "__init__" bm) (some (some (.builtin "ValueError.__init__")))))))
    | _, _ => false)
  | _ => false
def noneB : Value → Bool
  | .none => true
  | _ => false
def fileB (K : Frag) (file : Str) (a : Addr) : Bool := match K.lookup a with
  | some ⟨_, _, .fields vs, _⟩ => (match vs.toList with
    | _ :: _ :: .str fl _ :: _ => file == fl
    | _ => false)
  | _ => false
def cellB (K : Frag) (cc C : Addr) : Bool := match K.lookup cc with
  | some ⟨_, _, .cell (some (.ref D)), _⟩ => decide (D = C)
  | _ => false
def cloB (K : Frag) (file q : Str) (C f : Addr) : Bool := match K.lookup f with
  | some ⟨_, _, .func fd, _⟩ => (match fd.closure, fd.code with
    | [(x, cc)], .ref cda => decide (x = "__class__") && (noneB fd.defaults && (codeIn K (.ref cda) q && (fileB K file cda && cellB K cc C)))
    | _, _ => false)
  | _ => false
def atB (K : Frag) (file q : Str) (C f : Addr) : Bool := clsB K C && (cloB K file q C f && (He.eqO (findIn K (.ref C) "__setattr__") (some (some (.builtin "object.__setattr__"))) && (He.eqO (findIn K (.ref C) "at") (some none) && (He.eqO (findIn K (.ref C) "__init__") (some (some (.ref f))) &&
  (decide (typeIn K (.ref f) = some (.type "function")) && (keepIn K (.ref C) && (decide (subIn K (.ref C) (.type "BaseException") = some true) && (decide (subIn K (.ref C) (.type "ValueError") = some true) && (decide (mroIn K C (.ref C) = some true) && (decide (typeIn K (.ref C) = some (.type "type")) && He.eqO (nsIn K cStatics "thirdparty.any") (some none)))))))))))
theorem cls_ok {K : Frag} {C : Addr} (h : clsB K C = true) : ∃ nm qn N bs bm sn sub ab col dd k0 k1 k2 k3 k5, K.lookup C = some (excClassObj nm qn C N bs bm true sn sub ab col dd k0 k1 k2 k3 k5 "ValueError.__new__") ∧ HandSPX.refsVE bm = true ∧ alongIn K "__init__" bm = some (some (.builtin "ValueError.__init__")) := by
  unfold clsB at h
  split at h
  · rename_i t dd cd sl hl
    obtain ⟨h1, h2⟩ := Bool.and_eq_true_iff.mp h
    have h1 := of_decide_eq_true h1
    subst h1
    split at h2
    · rename_i C' bm k0 k1 k2 k3 n k5 hm hs
      obtain ⟨h3, h2⟩ := Bool.and_eq_true_iff.mp h2
      obtain ⟨h4, h2⟩ := Bool.and_eq_true_iff.mp h2
      obtain ⟨h5, h2⟩ := Bool.and_eq_true_iff.mp h2
      obtain ⟨h6, h2⟩ := Bool.and_eq_true_iff.mp h2
      obtain ⟨h7, h8⟩ := Bool.and_eq_true_iff.mp h2
      have h3 := of_decide_eq_true h3
      have h4 := of_decide_eq_true h4
      subst h3 h4
      have hsl : sl = #[k0, k1, k2, k3, some (.builtin "ValueError.__new__"), k5] := by
        rw [← Array.toArray_toList (xs := sl), hs]
      obtain ⟨nm, bs, mro, N, qn, hd, sn, sub, ab, col, del⟩ := cd
      dsimp only at hm h5 h6
      subst hm h5
      have h6 : del = false := by simpa using h6
      subst h6 hsl
      exact ⟨nm, qn, N, bs, bm, sn, sub, ab, col, dd, k0, k1, k2, k3, k5, hl, h7, He.eqO_ok h8⟩
    · cases h2
  · cases h
theorem file_ok {K : Frag} {file : Str} {a : Addr} (h : fileB K file a = true) : ∃ c d vs sl fl t, K.lookup a = some ⟨c, d, .fields vs, sl⟩ ∧ vs[2]? = some (.str fl t) ∧ (file == fl) = true := by
  unfold fileB at h
  split at h
  · rename_i c d vs sl hl
    split at h
    · rename_i a0 a1 fl t r he
      refine ⟨c, d, vs, sl, fl, t, hl, ?_, h⟩
      rw [← Array.getElem?_toList, he]
      rfl
    · cases h
  · cases h
theorem cell_ok {K : Frag} {cc C : Addr} (h : cellB K cc C = true) : ∃ c d sl, K.lookup cc = some ⟨c, d, .cell (some (.ref C)), sl⟩ := by
  unfold cellB at h
  split at h
  · rename_i c d D sl hl
    have := of_decide_eq_true h
    subst this
    exact ⟨c, d, sl, hl⟩
  · cases h
theorem none_ok {v : Value} (h : noneB v = true) : v = .none := by
  cases v <;> first | rfl | cases h
theorem txt_of {P : Program} {K : Frag} {p : Str × Option Str} {C : Addr} {q : Str} {z : KbAt.Ps} (h : atB K P.main.file q C (He.fAd K p) = true) (e : fnC K p = (some (("__init__" : Str), q, KbAt.prm z, FuncBody.stmts [KbAt.s1 z, KbAt.s2 z], KbAt.sco, mainGlobals, builtinsNs) : FnC)) (hl : (z.p2.endLine == z.p7.line) = true) (ht : (P.main.scope.names.lookup ("super" : Str)).isSome = false) :
    ∃ cc cda, KbAt.Txt P K C (He.fAd K p) cc cda q z := by
  obtain ⟨h1, h⟩ := Bool.and_eq_true_iff.mp h
  obtain ⟨h2, h⟩ := Bool.and_eq_true_iff.mp h
  obtain ⟨h3, h⟩ := Bool.and_eq_true_iff.mp h
  obtain ⟨h4, h⟩ := Bool.and_eq_true_iff.mp h
  obtain ⟨h5, h⟩ := Bool.and_eq_true_iff.mp h
  obtain ⟨h6, h⟩ := Bool.and_eq_true_iff.mp h
  obtain ⟨h7, h⟩ := Bool.and_eq_true_iff.mp h
  obtain ⟨h8, h⟩ := Bool.and_eq_true_iff.mp h
  obtain ⟨h9, h⟩ := Bool.and_eq_true_iff.mp h
  obtain ⟨h10, h⟩ := Bool.and_eq_true_iff.mp h
  obtain ⟨h11, h12⟩ := Bool.and_eq_true_iff.mp h
  unfold cloB at h2
  unfold fnC at e
  split at h2
  · rename_i oc od fd osl hf
    rw [hf] at e
    split at h2
    · rename_i x cc cda hcl hco
      obtain ⟨g1, h2⟩ := Bool.and_eq_true_iff.mp h2
      obtain ⟨g2, h2⟩ := Bool.and_eq_true_iff.mp h2
      obtain ⟨g3, h2⟩ := Bool.and_eq_true_iff.mp h2
      obtain ⟨g4, g5⟩ := Bool.and_eq_true_iff.mp h2
      have gn1 := of_decide_eq_true g1
      have gn2 := none_ok g2
      clear g1 g2
      obtain ⟨c1, c2, c3, c4, c5, c6, k1, k2, k3⟩ := file_ok g4
      refine ⟨cc, cda, cls_ok h1, He.eqO_ok h3, He.eqO_ok h4, He.eqO_ok h5, of_decide_eq_true h6, h7, of_decide_eq_true h8, of_decide_eq_true h9, of_decide_eq_true h10, of_decide_eq_true h11, He.eqO_ok h12, ?_, g3, ⟨c1, c2, c3, c4, c5, c6, k1, k2, k3⟩, cell_ok g5, hl, ht⟩
      obtain ⟨nm, qn, prm, bd, sc, gl, cl, df, kd, dc, pm, an, cdv, ct, bn⟩ := fd
      dsimp only at hcl hco gn1 gn2 e
      simp only [Option.some.injEq, Prod.mk.injEq] at e
      obtain ⟨e1, e2, e3, e4, e5, e6, e7⟩ := e
      subst hcl hco gn1 gn2 e1 e2 e3 e4 e5 e6 e7
      exact ⟨oc, od, kd, dc, pm, an, ct, osl, hf⟩
    · cases h2
  · cases h2
end KbHk
set_option Elab.async false
set_option linter.all false
set_option maxRecDepth 100000
set_option maxHeartbeats 4000000
/-! the law's def alone, run where no repr is under way: so repr of data at any depth has a rule -/
namespace KbRp
open PySem PySem.Spec PyProof.Rows L2 Kb
section
variable {X : Cx}
/-- repr(x), x data -/
def rRepr (K : PySem.W.Frag) : List V → Hp → VK → Prop := fun xs H Q => ∃ v d, xs = [v] ∧ Dp K H v d ∧ d.showable = true ∧ d.depth ≤ 64 ∧ d.shown.length ≤ sizeLine ∧ Q (.str d.shown) H
theorem noDict {K : PySem.W.Frag} {H : Hp} : ∀ {v : V} {d : PyData}, Dp K H v d → d.hasDict = false
  | _, .none, _ => rfl
  | _, .bool _, _ => rfl
  | _, .int _, _ => rfl
  | _, .str _, _ => rfl
  | _, .list ds, h => by
    cases h with
    | lst _ ha => exact go ha
  | _, .tuple ds, h => by
    cases h with
    | tup _ ha => exact go ha
  | _, .dict _, h => by cases h
where
  go {K : PySem.W.Frag} {H : Hp} : ∀ {vs : List V} {ds : List PyData}, DpAll K H vs ds → PyData.hasDictAll ds = false
    | _, [], _ => rfl
    | _, d :: ds, h => by
      cases h with
      | cons h1 h2 =>
        show (d.hasDict || PyData.hasDictAll ds) = false
        rw [noDict h1, go h2]
        rfl
theorem call_repr (hg : X.A.guards = some []) (hu : X.A.units + 66 < cLine) : CallR X (.builtin "repr") (rRepr X.K) := by
  intro pins s σ H xs us Q I r h
  obtain ⟨v, d, rfl, hd, hs, hdp, hz, q⟩ := h
  cases r with
  | cons r1 r2 =>
    cases r2
    rename_i u
    obtain ⟨as, rd⟩ := Dp.reads I d v u hd r1
    have hnd := noDict hd
    cases rd with
    | none => exact PySem.P.repr_of_none ⟨.str _, H, I.tok _, ⟨_, rfl⟩, q⟩
    | bool b => exact PySem.P.repr_of_bool ⟨.str _, H, I.tok _, ⟨_, by cases b <;> rfl⟩, q⟩
    | int i t => exact PySem.P.repr_of_int (of_decide_eq_true hs) ⟨.str _, H, I.tok _, ⟨_, rfl⟩, q⟩
    | str x t => exact PySem.P.repr_of_str ⟨.str _, H, I.tok _, ⟨_, rfl⟩, q⟩ hz
    | list h1 h2 h3 h4 => exact repr_of_reads' (.list h1 h2 h3 h4) hs (PyData.noDict_hsm hnd) hg (by omega) (fun _ _ e => e) (fun h' u tk hk => ⟨.str _, H, I.kept hk, ⟨_, rfl⟩, q⟩) hz
    | tuple h1 h2 h3 h4 => exact repr_of_reads' (.tuple h1 h2 h3 h4) hs (PyData.noDict_hsm hnd) hg (by omega) (fun _ _ e => e) (fun h' u tk hk => ⟨.str _, H, I.kept hk, ⟨_, rfl⟩, q⟩) hz
    | dict _ _ _ _ _ => cases hnd
end
/-! ### a def's run where no repr is under way -/
/-- a def's promise, kept where nothing is being shown -/
structure RunG (P : Program) (w : World) (K : PySem.W.Frag) (mg : Str → Option Value) (base : Heap) (k : Nat) (f : Addr) (fd : FuncData) (ps : List Str) (sp : Sp) : Prop where
  go : ∀ {A : Around} {outer : List Env} {s : Shared} {H : Hp} {args : Args} {us : List Value} {vs : List V} {Q : VK} {E : XK}, A.guards = some [] → Room k A → Env0 P w K mg base A outer s H → BindsTo s fd args (ps.zip us) → Vals vs us → sp vs H Q E → codeAny (model P w) A (.call (.ref f) args) (CR CX0 outer P w H s Q E) s
section
variable {P : Program} {w : World} {K : PySem.W.Frag} {mg : Str → Option Value} {base : Heap} {x qual : Str} {st : Stmt} {f c : Addr} {fd : FuncData} {N ps : List Str} {k : Nat} {sp : Sp}
theorem okG (F : Fun K x qual st f fd) (hc : fd.code = .ref c) (S : FnScope N ps (defScope st)) (len : ∀ vs H Q E, sp vs H Q E → vs.length = ps.length)
    (hbody : ∀ (A : Around) (outer : List Env) (s : Shared) (H : Hp) (vs : List V) (Q : VK) (E : XK), A.guards = some [] → Room k (A.deeper (envOfC qual (defScope st) s.heap.objs.size f (.ref c))) → sp vs H Q E →
      ∃ t, PSs (cxOf CX0 P w K mg base N qual (defScope st) f (.ref c) A outer s H E).nox (defBody st) t ∧ t { nx := fun _ H' => Q .non H', rt := Q } (start N vs) H) : RunG P w K mg base (k + 1) f fd ps sp := by
  obtain ⟨oc, od, kV, doc, pm, an, cdv, ct, osl, rfl, lk, hcd⟩ := F.ex
  obtain rfl : cdv = .ref c := hc
  refine ⟨fun {A outer s H args us vs Q E} hg hr e0 hb r hsp => ?_⟩
  have old : ∀ b o, base.get? b = some o → s.heap.get? b = some o := fun b o e => (e0.bs b o e).1
  have KX : K.In s.heap := e0.mod.kin.keeps old
  have kinds : ∀ y ∈ ps.zip us, (defScope st).names.lookup y.1 = some .local ∨ ((defScope st).names.lookup y.1 = some .cell ∧ ((cellsFrom (s.heap.objs.size + 1) (defScope st).names []).lookup y.1).isSome = true) := by
    intro y hy
    obtain ⟨n, v⟩ := y
    exact (S.par n (List.of_mem_zip hy).1).imp id fun q => ⟨q, PySem.W.cellsFrom_some _ _ _ (.inl q)⟩
  refine codeAny_call_function hr.depth (KX _ _ lk) rfl S.co S.gen rfl (PySem.W.codeRec_of KX hcd) (hb _ _ _ _ (wpAny_newFunctionEnv_cells S.kind kinds fun env he s1 x => ?_))
  subst he
  obtain ⟨t, ht, hq⟩ := hbody A outer s H vs Q E hg (hr.deeper _) hsp
  refine ⟨(e0.mod.nolimit.keeps old).keeps x.toInCall.keep, codeAny_func (wpAny_mono (ht.nox.run [] s1 (start N vs) H _ (inv_start S hr.hd e0 (len _ _ _ _ hsp) r x) hq) (fun fl s' hs => ?_) fun e s' hs => hs)⟩
  cases fl with
  | ret u =>
    obtain ⟨v, σ', H', J, rv, q⟩ := hs
    exact ⟨v, H', J.os, J.bare, J.base, J.hok, rv, q⟩
  | next =>
    obtain ⟨σ', H', J, q⟩ := hs
    exact ⟨.non, H', J.os, J.bare, J.base, J.hok, rfl, q⟩
  | brk =>
    obtain ⟨_, _, _, q⟩ := hs
    exact q.elim
  | cont =>
    obtain ⟨_, _, _, q⟩ := hs
    exact q.elim
end
end KbRp
set_option Elab.async false
set_option linter.all false
set_option maxRecDepth 100000
set_option maxHeartbeats 4000000
/-! a law's end whose def asks repr -/
namespace KbRp
open PySem PySem.Spec PyProof.Rows L2 Kb LamX
/-- what is tracked ahead of the law: tables, and the script unless it is written -/
def ahead (T : List Addr) (own : Bool) (a : Addr) (o : Obj) (xs : List V) : Hp := fun b => if b ∈ T then some (.tbl #[]) else if own = true ∧ b = a then some (.frz o (.lst xs)) else none
theorem ahead_in {T : List Addr} {own : Bool} {a b : Addr} {o : Obj} {xs : List V} {u : HO} (h : ahead T own a o xs b = some u) : (b ∈ T ∧ u = .tbl #[]) ∨ (b ∉ T ∧ own = true ∧ b = a ∧ u = .frz o (.lst xs)) := by
  unfold ahead at h
  by_cases h1 : b ∈ T
  · rw [if_pos h1] at h
    exact .inl ⟨h1, (Option.some.inj h).symm⟩
  · rw [if_neg h1] at h
    by_cases h2 : own = true ∧ b = a
    · rw [if_pos h2] at h
      exact .inr ⟨h1, h2.1, h2.2, (Option.some.inj h).symm⟩
    · rw [if_neg h2] at h
      cases h
section
variable {P : Program} {w : World} {K : PySem.W.Frag} {mg mb : Str → Option Value} {k : Nat} {fa a : Addr} {cs : List (Addr × Addr)} {fd : FuncData} {x : Str} {sp : Sp} {s₁ : Shared} {vs : List Value} {ns : List Int}
theorem law_callG (KX : K.In s₁.heap) (gm : s₁.heap.Ns mainGlobals mg) (gb : s₁.heap.Ns builtinsNs mb) (hbb : ∀ x : Str, x ≠ "__name__" → mb x = bootBuiltins x) (hlim : s₁.heap.NoLimit) (hg : s₁.gens = #[])
    (hT : ∀ p ∈ cs, s₁.heap.get? p.2 = some { cls := .none, data := .fields #[] }) (nT : ∀ p ∈ cs, K.lookup p.2 = none) (C : ∀ p ∈ cs, PySem.W.CodeHd s₁.heap p.1 p.2)
    (hbm : ∃ (bm : Addr) (ob : Obj), mg "__builtins__" = some (.ref bm) ∧ bm ≠ builtinsNs ∧ s₁.heap.get? bm = some ob ∧ ob.cls = .type "module" ∧ ob.dict = some builtinsNs ∧ ob.data = .plain)
    (ha : s₁.heap.get? a = some { cls := .type "list", data := .seq vs.toArray }) (hi : IntsAre vs ns) (hl : ns.length ≤ sizeLine) (hr : Room k callerA)
    (F : ∀ base : Heap, K.In base → base.Ns mainGlobals mg → (∀ p ∈ cs, TabB base mg p.1 p.2) → RunG P w K mg base k fa fd [x] sp) (hbind : ∀ (s : Shared) (u : Value), BindsTo s fd ⟨[u], []⟩ [(x, u)])
    (hsp : ∀ H : Hp, (∀ p ∈ cs, H p.2 = some (.tbl #[])) → SqL K H a (ns.map V.int) → sp [.ref a] H (fun v _ => v = .bl true) fun _ _ _ => False) :
    codeAny (model P w) callerA (.call (.ref fa) ⟨[.ref a], []⟩) (fun r s' => r = .ok (.ret (.bool true)) ∧ OldK s₁.heap s'.heap ∧ s'.os = s₁.os ∧ AllBare s'.gens) s₁ := by
  obtain ⟨T, eT⟩ : ∃ T, T = cs.map (·.2) := ⟨_, rfl⟩
  have inT : ∀ p ∈ cs, p.2 ∈ T := fun p hp => eT ▸ List.mem_map_of_mem hp
  have ofT : ∀ b ∈ T, ∃ p ∈ cs, p.2 = b := fun b hb => by
    rw [eT] at hb
    obtain ⟨p, hp, e⟩ := List.mem_map.mp hb
    exact ⟨p, hp, e⟩
  have tab : ∀ b ∈ T, s₁.heap.get? b = some { cls := .none, data := .fields #[] } := fun b hb => by
    obtain ⟨p, hp, e⟩ := ofT b hb
    exact e ▸ hT p hp
  have aT : a ∉ T := fun z => by
    have q := ha.symm.trans (tab a z)
    cases q
  have rv := vals_ints hi
  have len : (ns.map V.int).length ≤ sizeLine := by rw [List.length_map]; exact hl
  obtain ⟨own, eo⟩ : ∃ own : Bool, own = (K.lookup a).isNone := ⟨_, rfl⟩
  obtain ⟨H, eH⟩ : ∃ H, H = ahead T own a { cls := .type "list", data := .seq vs.toArray } (ns.map V.int) := ⟨_, rfl⟩
  have hin : ∀ {b : Addr} {u : HO}, H b = some u → (b ∈ T ∧ u = .tbl #[]) ∨ (b ∉ T ∧ own = true ∧ b = a ∧ u = .frz { cls := .type "list", data := .seq vs.toArray } (.lst (ns.map V.int))) := fun {b u} e => ahead_in (eH ▸ e)
  have hTb : ∀ p ∈ cs, H p.2 = some (.tbl #[]) := fun p hp => by
    rw [eH]
    exact if_pos (inT p hp)
  -- what is untracked: all whose data are neither a list nor no fields
  have free : ∀ {b : Addr} {o : Obj}, s₁.heap.get? b = some o → (∀ vs n, o.data = .seq vs n → False) → (o.data = .fields #[] → False) → H b = none := fun {b o} e h1 h2 => by
    cases q : H b with
    | none => rfl
    | some u =>
      rcases hin q with ⟨m, _⟩ | ⟨_, _, m, _⟩
      · have z := e.symm.trans (tab b m)
        cases z
        exact (h2 rfl).elim
      · subst m
        have z := e.symm.trans ha
        cases z
        exact (h1 _ _ rfl).elim
  have ns' : ∀ {b : Addr} {m : Str → Option Value}, s₁.heap.Ns b m → (hidT s₁.heap H).Ns b m := fun {b m} ⟨o, es, ep, e, d, r⟩ =>
    ⟨o, es, ep, hidT_get e (free e (fun _ _ z => by rw [d] at z; cases z) fun z => by rw [d] at z; cases z), d, r⟩
  have KB : K.In (hidT s₁.heap H) := fun b o e => hidT_get (KX b o e) (by
    cases q : H b with
    | none => rfl
    | some u =>
      rcases hin q with ⟨m, _⟩ | ⟨_, w1, m, _⟩
      · obtain ⟨p, hp, ep⟩ := ofT b m
        rw [← ep, nT p hp] at e
        cases e
      · rw [eo, Option.isNone_iff_eq_none] at w1
        rw [m, w1] at e
        cases e)
  have M : L2.Mod K mg (hidT s₁.heap H) := ⟨KB, ns' gm, ⟨mb, ns' gb, hbb⟩, hlim.elim fun mc hm => ⟨mc, ns' hm.1, hm.2⟩⟩
  have TB : ∀ p ∈ cs, TabB (hidT s₁.heap H) mg p.1 p.2 := fun p hp => by
    have t := hT p hp
    constructor
    · obtain ⟨o, us, file, tf, flags, tg, inF, text, tt, e1, r1, r2, r3, rs⟩ := C p hp
      refine ⟨o, us, file, tf, flags, tg, inF, text, tt, hidT_get e1 (free e1 (fun _ _ z => ?_) fun z => ?_), r1, r2, r3, rs⟩
      · rw [r2] at z
        cases z
      · rw [r2] at z
        cases z
        simp at r3
    · obtain ⟨bm, ob, b1, b2, b3, b4, b5, b6⟩ := hbm
      refine ⟨bm, ob, b1, b2, fun q => ?_, fun q => ?_, hidT_get b3 (free b3 (fun _ _ z => ?_) fun z => ?_), b4, b5, b6⟩
      · obtain ⟨o, es, ep, e, hd, _⟩ := gm
        rw [q] at b3
        have z := b3.symm.trans e
        cases z
        rw [hd] at b6
        cases b6
      · rw [q] at b3
        have z := b3.symm.trans t
        cases z
        cases b6
      · rw [b6] at z
        cases z
      · rw [b6] at z
        cases z
    · intro z
      obtain ⟨o, es, ep, e, hd, _⟩ := gm
      rw [z] at e
      have q := e.symm.trans t
      cases q
      cases hd
  have hok : HOk P w H s₁.heap := fun b u e => by
    rcases hin e with ⟨m, rfl⟩ | ⟨_, _, rfl, rfl⟩
    · exact tab b m
    · exact ⟨ha, len, vs, _, rv, ha⟩
  have E0 : Env0 P w K mg (hidT s₁.heap H) callerA [] s₁ H := ⟨rfl, M, fun _ _ e => of_hidT e, Nat.le_of_eq (hidT_size _ _), trivial, (fun b hb => absurd (show b ∈ ([] : List Addr) from hb) List.not_mem_nil), hok, AllBare.of_eq hg⟩
  have S : SqL K H a (ns.map V.int) := by
    cases q : K.lookup a with
    | none =>
      refine .inl (.inr ⟨{ cls := .type "list", data := .seq vs.toArray }, ?_⟩)
      rw [eH]
      exact (if_neg aT).trans (if_pos ⟨by rw [eo, q]; rfl, rfl⟩)
    | some o =>
      have z := (KX a o q).symm.trans ha
      cases z
      exact .inr ⟨_, vs.toArray, _, q, rfl, rfl, rfl, by rw [List.size_toArray, ← rv.length]; exact len, rv⟩
  refine codeAny_mono ((F _ KB (ns' gm) TB).go (args := ⟨[.ref a], []⟩) (us := [.ref a]) (vs := [.ref a]) rfl hr E0 (hbind s₁ (.ref a)) (.cons rfl .nil) (hsp H hTb S)) fun r s' h => ?_
  cases r with
  | error e => exact h.elim
  | ok fl =>
    cases fl with
    | next => exact h.elim
    | brk => exact h.elim
    | cont => exact h.elim
    | ret u =>
      obtain ⟨v, H', os, bare, un, hok', rl, rfl⟩ := h
      obtain rfl : u = Value.bool true := rl
      have kept : ∀ b o, b ∉ T → s₁.heap.get? b = some o → s'.heap.get? b = some o := fun b o nb e => by
        cases q : H b with
        | none => exact un.keep b o e q (fun z => by cases z) (fun z => by cases z)
        | some u =>
          rcases hin q with ⟨m, _⟩ | ⟨_, _, rfl, rfl⟩
          · exact absurd m nb
          · have z := (hok _ _ q).1
            have z' := (hok' _ _ (un.frzs _ _ _ q)).1
            rw [e] at z
            rw [z', ← z]
      refine ⟨rfl, ⟨fun b o e => ?_, fun b o e => ?_⟩, os, bare⟩
      · by_cases m : b ∈ T
        · obtain ⟨p, hp, rfl⟩ := ofT b m
          obtain ⟨more, z⟩ := un.tbls p.2 #[] (hTb p hp)
          have z := hok' p.2 _ z
          have q := e.symm.trans (hT p hp)
          cases q
          exact .inr (.inl ⟨((C p hp).tab (hT p hp)).isCodeTable, rfl, #[], more, rfl, by rw [Array.empty_append] at z ⊢; exact z⟩)
        · exact .inl (kept b o m e)
      · by_cases m : b ∈ T
        · obtain ⟨p, hp, rfl⟩ := ofT b m
          obtain ⟨more, z⟩ := un.tbls p.2 #[] (hTb p hp)
          exact ⟨_, hok' p.2 _ z⟩
        · exact ⟨o, kept b o m e⟩
end
/-- of a law's promise at the head's heap, the def run where nothing is being shown -/
def LawG (l : PySem.W.OpenLaw) (w : World) (K : PySem.W.Frag) (k n : Nat) (x : Str) (mg : Str → Option Value) (fa : Addr) (h : Heap) : Prop :=
  ∃ (fd : FuncData) (cs : List (Addr × Addr)) (sp : Sp), ((∀ p ∈ cs, h.get? p.2 = some { cls := .none, data := .fields #[] }) ∧ (∀ p ∈ cs, K.lookup p.2 = none) ∧ ∀ p ∈ cs, PySem.W.CodeHd h p.1 p.2) ∧ (∀ (s : Shared) (u : Value), BindsTo s fd ⟨[u], []⟩ [(x, u)]) ∧
    (∀ (H : Hp) (a : Addr) (ns : List Int), ns.length ≤ n → (∀ z ∈ ns, Builtin.Int.intBits z ≤ 1048576) → (∀ p ∈ cs, H p.2 = some (.tbl #[])) → SqL K H a (ns.map V.int) → sp [.ref a] H (fun v _ => v = .bl true) fun _ _ _ => False) ∧
    ∀ base : Heap, K.In base → base.Ns mainGlobals mg → (∀ p ∈ cs, TabB base mg p.1 p.2) → RunG l.prog w K mg base k fa fd [x] sp
theorem walkG {l : PySem.W.OpenLaw} {n k : Nat} {q : Program} {loose : List Str} {XP : (Str → Option Value) → Heap → Prop} {YP : World → Heap → Prop} {d : DefRec} {x : Str}
    (hn : l.most = some n) (hn2 : n ≤ sizeLine) (hdf : d.params.defaults = []) (hr : Room k callerA)
    (F : ∀ (w : World) (mg : Str → Option Value) (fa : Addr) (h : Heap), YP w h → h.Ns mainGlobals mg → mg d.name = some (.ref fa) → ∃ K : PySem.W.Frag, K.In h ∧ LawG l w K k n x mg fa h) :
    PySem.W.WalkO q loose XP YP l.row.toRowW d [] (fun f vs => PySem.call f vs) := by
  refine Att.attach_callB hn hdf fun w s₀ s₁ mg mb fa o pm cd doc a vs ns G Y _ _ _ hmg ho hi hlen hbits hg => ?_
  obtain ⟨K, KX, fd, cs, sp, ⟨c1, c2, c3⟩, hb, hs, hF⟩ := F w mg fa _ Y G.T.g hmg
  exact law_callG KX G.T.g G.T.b G.T.builtins G.T.nolimit hg c1 c2 c3 G.T.bmain ho hi (Nat.le_trans hlen hn2) hr hF hb fun H t S => hs H a ns hlen hbits t S
end KbRp
set_option Elab.async false
set_option linter.all false
set_option maxRecDepth 100000
set_option maxHeartbeats 4000000
/-! enumerate of a tuple as of a list -/
namespace PySem
open Sem (wp)
open AutoSeq1 (wpAny_loadPart')
theorem meets_enumT (l : Addr) (items : Array Value) (n : Nat) (dct : Option Addr) (sl : Array (Option Value)) :
    Meets (Builtin.«enumerate.__new__» ⟨[.type "enumerate", .ref l], []⟩) (fun _ R s => s.heap.get? l = some ⟨.type "tuple", dct, .seq items n, sl⟩ ∧
      R (.ok (.ret (.ref (s.heap.push ⟨.type "tuple_iterator", none, .fields #[.ref l, .int 0 0], #[]⟩).objs.size)))
        { s with heap := (s.heap.push ⟨.type "tuple_iterator", none, .fields #[.ref l, .int 0 0], #[]⟩).push ⟨.type "enumerate", none, .fields #[.none, .bool false, .ref s.heap.objs.size, rawInt 0, .none, .none], #[]⟩ }) := by
  refine .of_wp fun prog w A R s h => ?_
  obtain ⟨hp, g, d, tk, os⟩ := s
  obtain ⟨hl, h⟩ := h
  have hsub := sub_enumerate
  have hT : Heap.IsTuple (Shared.heap ⟨hp, g, d, tk, os⟩) l items := ⟨_, hl, rfl, n, rfl⟩
  wp_walk using wpAny_loadPart' hl
  refine wpAny_stack_any fun _ => wpAny_pure ?_
  split
  · rename_i c _ _ _ _ _
    cases (c == Value.type "enumerate") <;> (wp_walk using wpAny_loadPart' hl, wpAny_pyIter_tuple hT; exact ⟨_, rfl, h⟩)
  · wp_walk using wpAny_loadPart' hl, wpAny_pyIter_tuple hT
    exact ⟨_, rfl, h⟩
theorem call_enumT {prog : Program} {w : World} {A : Around} {E : Value → Shared → Prop} {s : Shared} {l : Addr} {items : Array Value} {Q : Value → Shared → Prop} (hT : s.heap.IsTuple l items)
    (h : ∀ h', IsEnum h' (s.heap.objs.size + 1) s.heap.objs.size 0 .none → h'.IsTupleIter s.heap.objs.size l 0 → (∀ b o, s.heap.get? b = some o → h'.get? b = some o) → Q (.ref (s.heap.objs.size + 1)) { s with heap := h' }) :
    wpAny (model prog w) A (call (.type "enumerate") [.ref l]) Q E s := by
  obtain ⟨⟨c, dct, dt, sl⟩, hl, hc, n, hd⟩ := hT
  obtain rfl : c = .type "tuple" := hc
  obtain rfl : dt = .seq items n := hd
  refine callType_new F.called_enumerate (by decide) (F.typeCall_enumerate_1 _) (F.newCall_enumerate_1 _) (fun obj => F.args_object_init_2 obj _) F.entry_enumerate_new (meets_enumT l items n dct sl) ⟨hl, ?_⟩
  have hz : (s.heap.push ⟨.type "tuple_iterator", none, .fields #[.ref l, .int 0 0], #[]⟩).objs.size = s.heap.objs.size + 1 := Heap.size_push ..
  show _ ∧ _
  rw [hz]
  have he : IsEnum ((s.heap.push ⟨.type "tuple_iterator", none, .fields #[.ref l, .int 0 0], #[]⟩).push ⟨.type "enumerate", none, .fields #[.none, .bool false, .ref s.heap.objs.size, rawInt 0, .none, .none], #[]⟩) (s.heap.objs.size + 1) s.heap.objs.size 0 .none := by
    have z := Heap.get?_push_size (s.heap.push ⟨.type "tuple_iterator", none, .fields #[.ref l, .int 0 0], #[]⟩) (o := ⟨.type "enumerate", none, .fields #[.none, .bool false, .ref s.heap.objs.size, rawInt 0, .none, .none], #[]⟩) rfl
    rw [hz] at z
    exact z
  exact ⟨⟨_, he, rfl⟩, h _ he ⟨_, Heap.get?_push_of_some _ (Heap.get?_push_size _ rfl), rfl, rfl⟩ fun b o x => Heap.get?_push_of_some _ (Heap.get?_push_of_some _ x)⟩
end PySem
namespace Kb
open PySem PySem.Spec PyProof.Rows L2
def Itee (K : PySem.W.Frag) (S : Sc) : It where
  go i H := S.ok K H ∧ i < S.len
  yld i H v H' := ∃ T x, v = .ref T ∧ H T = none ∧ H' = upd H T (.tup [.int (i : Nat), x]) ∧ S.val i = some x
  stop i H := S.ok K H ∧ i = S.len
theorem turn_ee {P : Program} {w : World} {K : PySem.W.Frag} {elts : List Expr} {kk : Nat} {tpos : Pos} {S : Sc} {N : Nat} (b1 : S.below N) :
    Turn P w K (.Tuple elts kk tpos) (Itee K S) [N + 1, N] (N + 1) (fun i h => (∃ old, IsEnum h (N + 1) N ((i : Nat) : Int) old) ∧ S.at N i h) where
  mem := by simp
  obj := fun i h st b hb => by
    obtain ⟨⟨old, he⟩, h1⟩ := st
    rcases (by simpa using hb : b = N + 1 ∨ b = N) with z | z
    · rw [z]
      exact ⟨_, he, fun v q => nomatch q⟩
    · rw [z]
      exact Sc.at_obj h1
  keep := fun i h h' st k => by
    obtain ⟨⟨old, he⟩, h1⟩ := st
    exact ⟨⟨old, k (N + 1) (by simp) _ he⟩, Sc.at_keep h1 fun o q => k N (by simp) o q⟩
  item := by
    intro X hP hw hK hc i pins s σ H E I hf st hg
    subst hP hw hK
    obtain ⟨⟨old, he⟩, h1⟩ := st
    obtain ⟨o1, hi⟩ := hg
    have hh : X.A.in1.handled = none := I.ok.hd hc
    obtain ⟨f1, P1, St1, D1, s1, l1, v1, t1⟩ := Sc.draws (A := X.A.in1) I o1 b1 (Nat.le_refl N) hh h1
    have hel : N + 1 < s.heap.objs.size := Heap.lt_size he
    have nef : N + 1 ∉ N :: f1 := fun m => by
      rcases List.mem_cons.mp m with z | z
      · exact absurd z (Nat.succ_ne_self N)
      · exact absurd (l1 _ z) (Nat.not_lt.mpr (Nat.le_succ N))
    refine wpAny_pyNext_enum_itemD D1 he s1 hi (Nat.succ_ne_self N) nef fun u h' tk hP ho hs' hT hsz hk => ?_
    refine ⟨_, rfl, wpAny_letOwnedTupleGo_enum (s := { s with heap := h', toks := tk + 1 }) ho fun h'' he' sb => ?_⟩
    obtain ⟨x, ex, rx⟩ := v1 i u hP
    have hT2 : h''.get? s.heap.objs.size = some { cls := .type "tuple", data := .seq #[.int i tk, u] } := (sb.2 _ (Nat.ne_of_gt hel)).trans hT
    have new : ObjOk X.prog X.w (upd H s.heap.objs.size (.tup [.int (i : Nat), x])) h'' s.heap.objs.size (.tup [.int (i : Nat), x]) :=
      ⟨by show 2 ≤ sizeLine; decide, [.int i tk, u], .cons ⟨_, rfl⟩ (.cons rx .nil), ⟨_, hT2, rfl, _, rfl⟩⟩
    have I1 : Inv X pins σ (upd H s.heap.objs.size (.tup [.int (i : Nat), x])) { s with heap := h'', toks := tk + 1 } :=
      I.turnedNew (ch := [N + 1, N]) (fun b ob hb q => (sb.2 b (fun z => hb (by simp [z]))).trans (hk b ob (fun z => hb (by simp [z])) (fun z => hb (by simp [z])) q)) hf (Nat.le_refl _) new
    refine ⟨.ref s.heap.objs.size, _, I1, rfl, ⟨_, x, rfl, I.hok.fresh (Nat.le_refl _), rfl, ex⟩, ⟨⟨u, ?_⟩, Sc.at_keep (t1 _ _ hs') fun o q => (sb.2 N (Nat.ne_of_lt (Nat.lt_succ_self N))).trans q⟩, fun b hb => ?_⟩
    · rw [show ((i + 1 : Nat) : Int) = (i : Int) + 1 by omega]
      exact he'
    · have hb' : b < s.heap.objs.size := by
        rcases (by simpa using hb : b = N + 1 ∨ b = N) with z | z
        · rw [z]
          exact hel
        · rw [z]
          exact Nat.lt_of_succ_lt hel
      rw [upd_ne (Nat.ne_of_lt hb')]
      exact (hf b hb).1
  done := by
    intro X hP hw hK hc i pins s σ H E I hf st hg
    subst hP hw hK
    obtain ⟨⟨old, he⟩, h1⟩ := st
    obtain ⟨o1, rfl⟩ := hg
    have hh : X.A.in1.handled = none := I.ok.hd hc
    obtain ⟨f1, P1, St1, D1, s1, l1, v1, t1⟩ := Sc.draws (A := X.A.in1) I o1 b1 (Nat.le_refl N) hh h1
    obtain ⟨f0, f1', f2, f3, f4, f5⟩ := hf N (by simp)
    exact wpAny_pyNext_enum_endD D1 he s1 fun h' eb => ⟨rfl, I.turned (t' := s.toks) (fun b o hb q => eb b o hb q) f0 f1' f3 f4 f5⟩
  self := fun _ _ _ _ _ st h => let ⟨⟨_, he⟩, _⟩ := st; wpAny_pyIter_enum he h
def iEnumU (K : PySem.W.Frag) (ta : TA) : TI := fun σ H R => ta σ H fun vs H1 => ∃ S : Sc, vs = [S.v] ∧ (∀ z, S ≠ .txt z) ∧ S.ok K H1 ∧ R (Itee K S) H1
theorem pi_enumU {X : Cx} {e : Expr} {ta : TA} {p pos tpos : Pos} {elts : List Expr} {kk : Nat} (hg : Gl X "enumerate") (hm : X.mg "enumerate" = none) (ha : PA X [e] ta) (hs : starEach [e] X.env = [(false, eval e X.env)] := by rfl) :
    PI X (.Tuple elts kk tpos) (.Call (.Name "enumerate" p) [e] [] pos) (iEnumU X.K ta) := by
  refine ⟨fun pins s σ H R I h => ?_⟩
  refine Call_ (ld_blt I hg hm boot_enumerate (PyProof.Rows.callWith_type1 (thn (ha.run pos pins s σ H _ I h) fun us s1 ⟨vs, H1, I1, r1, q1⟩ => ?_) hs rfl))
  obtain ⟨S, ex, hS, hq, q⟩ := q1
  subst ex
  have fp : ∀ {h' : Heap} (hk : ∀ b o, s1.heap.get? b = some o → h'.get? b = some o), ∀ b ∈ [s1.heap.objs.size + 1, s1.heap.objs.size], s1.heap.objs.size ≤ b := fun {h'} hk b hb => by
    rcases (by simpa using hb : b = s1.heap.objs.size + 1 ∨ b = s1.heap.objs.size) with z | z
    · rw [z]
      exact Nat.le_succ _
    · rw [z]
      exact Nat.le_refl _
  cases r1 with
  | cons r rr =>
    cases rr
    cases S with
    | lst a xs =>
      obtain rfl := (show _ = Value.ref a from r)
      obtain ⟨its, rv, p', hz⟩ := I1.list hq
      refine call_enumerate_list p'.isList fun h' he hit hsz hk => wpAny_pyIter_enum he ?_
      exact ⟨s1.heap.objs.size + 1, [s1.heap.objs.size + 1, s1.heap.objs.size], _, _, H1, rfl, I1.kept (t' := s1.toks) hk, turn_ee (S := .lst a xs) p'.lt, ⟨⟨.none, he⟩, hit⟩, fun b hb => I1.fpOk (fp hk b hb) (I1.hok.fresh (fp hk b hb)), q⟩
    | tup a xs =>
      obtain rfl := (show _ = Value.ref a from r)
      obtain ⟨its, rv, p', hz⟩ := I1.tuple hq
      have pt : s1.heap.IsTuple a its.toArray := by
        obtain ⟨o, e, c, n, d⟩ := id p'
        exact ⟨o, e, c, n, d⟩
      refine call_enumT pt fun h' he hit hk => wpAny_pyIter_enum he ?_
      exact ⟨s1.heap.objs.size + 1, [s1.heap.objs.size + 1, s1.heap.objs.size], _, _, H1, rfl, I1.kept (t' := s1.toks) hk, turn_ee (S := .tup a xs) p'.lt, ⟨⟨.none, he⟩, hit⟩, fun b hb => I1.fpOk (fp hk b hb) (I1.hok.fresh (fp hk b hb)), q⟩
    | txt z => exact absurd rfl (hS z)
end Kb
set_option Elab.async false
set_option linter.all false
set_option maxRecDepth 100000
set_option maxHeartbeats 2000000
/-! an expression read over the first of a def's names; an item ahead of the end of a list, for op= -/
namespace Kb
open PySem PySem.Spec PyProof.Rows L2
abbrev cutN (X : Cx) (n : Nat) : Cx := { X with N := X.N.take n }
section
variable {X : Cx} {n : Nat} {pins : List (Addr × Obj)} {σ : L2.St} {H : Hp} {s : Shared}
theorem cut_ok (o : X.Ok) : (cutN X n).Ok := ⟨o.mod, o.kind, o.glob, o.blt, o.above, o.inj, o.has, o.cab, o.hd, o.frames, o.stk, o.exf, o.bs, o.bsz, o.noex, o.exfs, o.funs, o.frf⟩
theorem uncut_ok (o : (cutN X n).Ok) : X.Ok := ⟨o.mod, o.kind, o.glob, o.blt, o.above, o.inj, o.has, o.cab, o.hd, o.frames, o.stk, o.exf, o.bs, o.bsz, o.noex, o.exfs, o.funs, o.frf⟩
theorem cut_inv (I : Inv X pins σ H s) : Inv (cutN X n) pins (σ.take n) H s := by
  obtain ⟨m, hm, hl⟩ := I.loc
  refine ⟨cut_ok I.ok, I.os, I.bare, I.base, ⟨m, hm, fun i x v h1 h2 h3 => ?_⟩, I.cell, I.free, I.freeC, I.pin, I.hok, ?_⟩
  · have hi : i < n := by
      have := (List.getElem?_eq_some_iff.mp h1).1
      rw [List.length_take] at this
      omega
    rw [List.getElem?_take_of_lt hi] at h1 h2
    exact hl i x v h1 h2 h3
  · show (σ.take n).length = (X.N.take n).length
    rw [List.length_take, List.length_take, I.len]
theorem uncut_inv {H' : Hp} {s' : Shared} (hl : σ.length = X.N.length) (hn : ∀ i v, n ≤ i → σ[i]? ≠ some (some v)) (I : Inv (cutN X n) pins (σ.take n) H' s') : Inv X pins σ H' s' := by
  obtain ⟨m, hm, h0⟩ := I.loc
  refine ⟨uncut_ok I.ok, I.os, I.bare, I.base, ⟨m, hm, fun i x v h1 h2 h3 => ?_⟩, I.cell, I.free, I.freeC, I.pin, I.hok, hl⟩
  by_cases hi : i < n
  · exact h0 i x v ((List.getElem?_take_of_lt hi).trans h1) ((List.getElem?_take_of_lt hi).trans h2) h3
  · exact absurd h2 (hn i v (by omega))
theorem pe_cut {e : Expr} {t : TE} (n : Nat) (h : PE (cutN X n) e t) : PE X e (fun σ H Q => (∀ i v, n ≤ i → σ[i]? ≠ some (some v)) ∧ t (σ.take n) H Q) := by
  refine ⟨fun pins s σ H Q I ⟨hn, q⟩ => ?_⟩
  exact thn (h.run pins s (σ.take n) H Q (cut_inv I) q) fun u s1 ⟨x, H1, I1, r1, q1⟩ => ⟨x, H1, uncut_inv I.len hn I1, r1, q1⟩
/-- xs[i], i below 0 -/
theorem get_neg : PGet X (fun o i H Q => ∃ p xs k v, o = .ref p ∧ i = .int k ∧ k < 0 ∧ SqL X.K H p xs ∧ atI xs k = some v ∧ Q v H) := by
  intro pins s σ H x y v u Q I rx ry h
  obtain ⟨p, xs, i, z, rfl, rfl, h0, hq, he, q⟩ := h
  cases rx
  obtain ⟨t, rfl⟩ := ry
  obtain ⟨its, r, pl, hz⟩ := I.list hq
  obtain ⟨j, h1, h2, h3, h4, h5⟩ := atI_get he
  obtain ⟨w, ew, rw'⟩ := r.get h2
  have hl := r.length
  have hn := line63
  have hj : (i + (its.toArray.size : Int)).toNat = j := by
    rw [seqIndex_neg (by omega) h4] at h1
    rw [List.size_toArray, ← hl]
    exact Option.some.inj h1
  exact wpAny_getItem_list_neg pl.isList (by omega) (by rw [List.size_toArray] <;> omega) (by omega) (by rw [hj]; simpa using ew) ⟨z, H, I, rw', q⟩
end
end Kb
set_option Elab.async false
set_option linter.all false
namespace Kb
open PySem PySem.Spec PyProof.Rows L2
section
variable {X : Cx} {c a b : Expr} {tc ta tb : TT} {pos : Pos}
/-- the truth of a if t else b -/
def tIfT (t ta tb : TT) : TT := fun σ H Q => t σ H fun c H1 => if c = true then ta σ H1 Q else tb σ H1 Q
theorem pt_ifE (hc : PT X c tc) (ha : PT X a ta) (hb : PT X b tb) : PT X (.IfExp c a b pos) (tIfT tc ta tb) := by
  refine ⟨fun pins s σ H Q I h => ?_⟩
  refine isTrue_IfExp (thn (hc.run pins s σ H _ I h) fun d s1 ⟨H1, I1, q1⟩ => ?_)
  cases d with
  | true => exact ha.run pins s1 σ H1 Q I1 q1
  | false => exact hb.run pins s1 σ H1 Q I1 q1
end
end Kb
set_option Elab.async false
set_option linter.all false
set_option maxRecDepth 100000
set_option maxHeartbeats 4000000
namespace K18
open PySem PySem.Spec PyProof.Rows L2 Kb
/-! ### the text -/
def topS (i : Nat) : Stmt := PySem.Challenge.pw_onebase_k18_whole_the_first_wrong_cell.main.body.getD i (.Pass ⟨0, 0, 0, 0⟩)
abbrev s_is_number : Stmt := topS 5
theorem sc_is_number : FnScope ["thing"] ["thing"] (defScope s_is_number) := ⟨rfl, rfl, rfl, by decide +kernel, rfl, by decide +kernel, by decide +kernel⟩
abbrev s_within : Stmt := topS 6
theorem sc_within : FnScope ["thing", "low", "high"] ["thing", "low", "high"] (defScope s_within) := ⟨rfl, rfl, rfl, by decide +kernel, rfl, by decide +kernel, by decide +kernel⟩
abbrev s_is_cell : Stmt := topS 7
theorem sc_is_cell : FnScope ["thing"] ["thing"] (defScope s_is_cell) := ⟨rfl, rfl, rfl, by decide +kernel, rfl, by decide +kernel, by decide +kernel⟩
abbrev s_are_cells : Stmt := topS 8
theorem sc_are_cells : FnScope ["thing"] ["thing"] (defScope s_are_cells) := ⟨rfl, rfl, rfl, by decide +kernel, rfl, by decide +kernel, by decide +kernel⟩
abbrev s_tree_of : Stmt := topS 22
theorem sc_tree_of : FnScope ["cells", "reading", "at", "cell"] ["cells"] (defScope s_tree_of) := ⟨rfl, rfl, rfl, by decide +kernel, rfl, by decide +kernel, by decide +kernel⟩
abbrev s_l_begun : Stmt := topS 25
theorem sc_l_begun : FnScope ["script", "wide", "grain"] ["script"] (defScope s_l_begun) := ⟨rfl, rfl, rfl, by decide +kernel, rfl, by decide +kernel, by decide +kernel⟩
abbrev s_l_mixed : Stmt := topS 26
theorem sc_l_mixed : FnScope ["draw", "turn", "found", "prime", "blend", "grain"] ["draw"] (defScope s_l_mixed) := ⟨rfl, rfl, rfl, by decide +kernel, rfl, by decide +kernel, by decide +kernel⟩
abbrev s_l_take : Stmt := topS 27
theorem sc_l_take : FnScope ["draw", "many", "found"] ["draw", "many"] (defScope s_l_take) := ⟨rfl, rfl, rfl, by decide +kernel, rfl, by decide +kernel, by decide +kernel⟩
abbrev s_l_pick : Stmt := topS 28
theorem sc_l_pick : FnScope ["draw", "some"] ["draw", "some"] (defScope s_l_pick) := ⟨rfl, rfl, rfl, by decide +kernel, rfl, by decide +kernel, by decide +kernel⟩
abbrev s_l_caught : Stmt := topS 29
theorem sc_l_caught : FnScope ["act", "found", "raised"] ["act"] (defScope s_l_caught) := ⟨rfl, rfl, rfl, by decide +kernel, rfl, by decide +kernel, by decide +kernel⟩
abbrev s_l_tree_cells : Stmt := topS 30
theorem sc_l_tree_cells : FnScope ["tree", "cells", "part", "letters", "high", "sign"] ["tree"] (defScope s_l_tree_cells) := ⟨rfl, rfl, rfl, by decide +kernel, rfl, by decide +kernel, by decide +kernel⟩
abbrev s_l_leaf : Stmt := topS 31
theorem sc_l_leaf : FnScope ["draw", "kind", "k"] ["draw"] (defScope s_l_leaf) := ⟨rfl, rfl, rfl, by decide +kernel, rfl, by decide +kernel, by decide +kernel⟩
abbrev s_l_tree : Stmt := topS 32
theorem sc_l_tree : FnScope ["draw", "deep", "k"] ["draw", "deep"] (defScope s_l_tree) := ⟨rfl, rfl, rfl, by decide +kernel, rfl, by decide +kernel, by decide +kernel⟩
abbrev s_l_part_in : Stmt := topS 33
theorem sc_l_part_in : FnScope ["cells", "at", "deep", "cell", "parts", "told", "end", "number", "digit", "one"] ["cells", "at", "deep"] (defScope s_l_part_in) := ⟨rfl, rfl, rfl, by decide +kernel, rfl, by decide +kernel, by decide +kernel⟩
abbrev s_l_whole_tree : Stmt := topS 34
theorem sc_l_whole_tree : FnScope ["cells", "told"] ["cells"] (defScope s_l_whole_tree) := ⟨rfl, rfl, rfl, by decide +kernel, rfl, by decide +kernel, by decide +kernel⟩
abbrev s_l_goes_on : Stmt := topS 35
theorem sc_l_goes_on : FnScope ["cells", "tail", "many"] ["cells"] (defScope s_l_goes_on) := ⟨rfl, rfl, rfl, by decide +kernel, rfl, by decide +kernel, by decide +kernel⟩
abbrev s_l_wrong_cell : Stmt := topS 36
theorem sc_l_wrong_cell : FnScope ["cells", "low", "high", "middle"] ["cells"] (defScope s_l_wrong_cell) := ⟨rfl, rfl, rfl, by decide +kernel, rfl, by decide +kernel, by decide +kernel⟩
abbrev s_law : Stmt := topS 37
theorem sc_law : FnScope ["script", "draw", "turn", "tree", "cells", "bend", "at", "deed", "new", "wrong", "whole", "told"] ["script"] (defScope s_law) := ⟨rfl, rfl, rfl, by decide +kernel, rfl, by decide +kernel, by decide +kernel⟩
/-! ### heaps -/
def isTup : HO → Bool
  | .tup _ => true
  | .ext _ => true
  | .frz _ _ => true
  | _ => false
/-- all stands but what is at S and no tuple -/
def Kp (S : List Addr) (H H' : Hp) : Prop := ∀ b o, H b = some o → (isTup o = true ∨ b ∉ S) → H' b = some o
theorem Kp.refl {S : List Addr} {H : Hp} : Kp S H H := fun _ _ e _ => e
theorem Kp.trans {S : List Addr} {H H' H'' : Hp} (a : Kp S H H') (b : Kp S H' H'') : Kp S H H'' := fun x o e h => b x o (a x o e h) h
theorem Kp.mono {S S' : List Addr} {H H' : Hp} (h : ∀ b ∈ S, b ∈ S') (a : Kp S H H') : Kp S' H H' := fun x o e q => a x o e (q.imp id fun n m => n (h _ m))
theorem Kp.of {S : List Addr} {H H' : Hp} (a : Kp [] H H') : Kp S H H' := a.mono fun _ m => absurd m List.not_mem_nil
theorem Kp.new {S : List Addr} {H : Hp} {p : Addr} {o : HO} (n : H p = none) : Kp S H (upd H p o) := fun b x e _ => by rw [upd_ne (ne_of_none e n)]; exact e
theorem Kp.put {S : List Addr} {H0 H : Hp} {p : Addr} {o : HO} (a : Kp S H0 H) (n : H0 p = none) : Kp S H0 (upd H p o) := fun b x e h => by rw [upd_ne (ne_of_none e n)]; exact a b x e h
theorem Kp.put2 {S : List Addr} {H0 H : Hp} {p : Addr} {o : HO} (a : Kp S H0 H) (n : H p = none) : Kp S H0 (upd H p o) := a.trans (Kp.new n)
theorem Kp.tup {S : List Addr} {H H' : Hp} (a : Kp S H H') {b : Addr} {xs : List V} (e : H b = some (.tup xs)) : H' b = some (.tup xs) := a b _ e (.inl rfl)
theorem Kp.none {S : List Addr} {H H' : Hp} (a : Kp S H H') {b : Addr} (hb : b ∉ S) (e : H' b = Option.none) : H b = Option.none := by
  cases h : H b with
  | none => rfl
  | some o => rw [a b o h (.inr hb)] at e; cases e
theorem sqT {K : PySem.W.Frag} {H : Hp} {a : Addr} {xs : List V} (e : H a = some (.tup xs)) : SqT K H a xs := .inl (.inl e)
theorem sqL {K : PySem.W.Frag} {H : Hp} {a : Addr} {xs : List V} (e : H a = some (.lst xs)) : SqL K H a xs := .inl (.inl e)
/-! ### data -/
mutual
/-- x is a piece of data that stays while all but S stays -/
inductive Da (S : List Addr) (H : Hp) : V → PyData → Prop
  | non : Da S H .non .none
  | bl (b : Bool) : Da S H (.bl b) (.bool b)
  | int (i : Int) : Da S H (.int i) (.int i)
  | str (x : Str) : Da S H (.str x) (.str x)
  | lst {a : Addr} {xs : List V} {ds : List PyData} : H a = some (.lst xs) → a ∉ S → DaL S H xs ds → Da S H (.ref a) (.list ds)
  | tup {a : Addr} {xs : List V} {ds : List PyData} : H a = some (.tup xs) → DaL S H xs ds → Da S H (.ref a) (.tuple ds)
inductive DaL (S : List Addr) (H : Hp) : List V → List PyData → Prop
  | nil : DaL S H [] []
  | cons {v : V} {vs : List V} {d : PyData} {ds : List PyData} : Da S H v d → DaL S H vs ds → DaL S H (v :: vs) (d :: ds)
end
section
variable {K : PySem.W.Frag} {S : List Addr} {H H' : Hp}
mutual
theorem Da.kp (k : Kp S H H') : ∀ {d : PyData} {x : V}, Da S H x d → Da S H' x d
  | .none, _, .non => .non
  | .bool _, _, .bl _ => .bl _
  | .int _, _, .int _ => .int _
  | .str _, _, .str _ => .str _
  | .list _, _, .lst e n h => .lst (k _ _ e (.inr n)) n (DaL.kp k h)
  | .tuple _, _, .tup e h => .tup (k.tup e) (DaL.kp k h)
theorem DaL.kp (k : Kp S H H') : ∀ {ds : List PyData} {xs : List V}, DaL S H xs ds → DaL S H' xs ds
  | [], _, .nil => .nil
  | _ :: _, _, .cons h r => .cons (Da.kp k h) (DaL.kp k r)
end
mutual
theorem Da.dp : ∀ {d : PyData} {x : V}, Da S H x d → Dp K H x d
  | .none, _, .non => .non
  | .bool _, _, .bl _ => .bl _
  | .int _, _, .int _ => .int _
  | .str _, _, .str _ => .str _
  | .list _, _, .lst e _ h => .lst (sqL e) (DaL.dp h)
  | .tuple _, _, .tup e h => .tup (sqT e) (DaL.dp h)
theorem DaL.dp : ∀ {ds : List PyData} {xs : List V}, DaL S H xs ds → DpAll K H xs ds
  | [], _, .nil => .nil
  | _ :: _, _, .cons h r => .cons (Da.dp h) (DaL.dp r)
end
/-- the name of a piece of data's type -/
def tyD : PyData → String
  | .none => "NoneType"
  | .bool _ => "bool"
  | .int _ => "int"
  | .str _ => "str"
  | .list _ => "list"
  | .tuple _ => "tuple"
  | .dict _ => "dict"
theorem Da.ty {d : PyData} {x : V} (h : Da S H x d) : TyX K H x (.type (tyD d)) := by
  cases h with
  | non => exact .base .non
  | bl b => exact .base (.bl b)
  | int i => exact .base (.int i)
  | str x => exact .base (.str x)
  | lst e n h => exact .base (.lst e)
  | tup e h => exact .base (.tup e)
theorem DaL.len : ∀ {xs : List V} {ds : List PyData}, DaL S H xs ds → xs.length = ds.length
  | _, _, .nil => rfl
  | _, _, .cons _ r => congrArg (· + 1) (DaL.len r)
theorem DaL.get : ∀ {xs : List V} {ds : List PyData} (i : Nat), DaL S H xs ds → i < xs.length → ∃ x d, xs[i]? = some x ∧ ds[i]? = some d ∧ Da S H x d
  | _, _, _, .nil, h => absurd h (Nat.not_lt_zero _)
  | _, _, 0, .cons h _, _ => ⟨_, _, rfl, rfl, h⟩
  | _, _, i + 1, .cons _ r, h => DaL.get i r (Nat.lt_of_succ_lt_succ h)
theorem DaL.drop : ∀ {xs : List V} {ds : List PyData} (i : Nat), DaL S H xs ds → DaL S H (xs.drop i) (ds.drop i)
  | _, _, 0, h => h
  | _, _, _ + 1, .nil => .nil
  | _, _, i + 1, .cons _ r => DaL.drop i r
theorem DaL.app : ∀ {xs ys : List V} {ds es : List PyData}, DaL S H xs ds → DaL S H ys es → DaL S H (xs ++ ys) (ds ++ es)
  | _, _, _, _, .nil, h => h
  | _, _, _, _, .cons a r, h => .cons a (DaL.app r h)
theorem DaL.take : ∀ {xs : List V} {ds : List PyData} (i : Nat), DaL S H xs ds → DaL S H (xs.take i) (ds.take i)
  | _, _, 0, _ => .nil
  | _, _, _ + 1, .nil => .nil
  | _, _, i + 1, .cons h r => .cons h (DaL.take i r)
theorem DaL.ints : ∀ (ns : List Int), DaL S H (ns.map V.int) (ns.map PyData.int)
  | [] => .nil
  | _ :: r => .cons (.int _) (DaL.ints r)
end
def isInt : PyData → Bool
  | .int _ => true
  | _ => false
/-- is it a number from lo to hi? -/
def inB (lo hi : Int) : PyData → Bool
  | .int i => decide (lo ≤ i) && decide (i ≤ hi)
  | _ => false
theorem inB_int {lo hi : Int} {d : PyData} (h : inB lo hi d = true) : ∃ i, d = .int i ∧ lo ≤ i ∧ i ≤ hi := by
  cases d <;> simp [inB] at h
  exact ⟨_, rfl, h⟩
/-- isinstance(x, T) -/
theorem isi_ty {K : PySem.W.Frag} {S : List Addr} {H : Hp} {d : PyData} {x : V} {T : String} {b : Bool} {Q : VK} (h : Da S H x d) (e : kitB (tyD d) T = some b) (q : Q (.bl b) H) : rIsi K [x, .ty T] H Q :=
  ⟨x, .ty T, _, _, b, rfl, .ty T, h.ty, kit_ty e, q⟩
theorem k_int (d : PyData) (hd : ∀ l, d ≠ .dict l) : kitB (tyD d) "int" = some (isInt d || match d with | .bool _ => true | _ => false) := by
  cases d <;> first | rfl | decide +kernel | exact absurd rfl (hd _)
theorem k_bool (d : PyData) (hd : ∀ l, d ≠ .dict l) : kitB (tyD d) "bool" = some (match d with | .bool _ => true | _ => false) := by
  cases d <;> first | rfl | decide +kernel | exact absurd rfl (hd _)
theorem k_str (d : PyData) (hd : ∀ l, d ≠ .dict l) : kitB (tyD d) "str" = some (match d with | .str _ => true | _ => false) := by
  cases d <;> first | rfl | decide +kernel | exact absurd rfl (hd _)
theorem k_tup (d : PyData) (hd : ∀ l, d ≠ .dict l) : kitB (tyD d) "tuple" = some (match d with | .tuple _ => true | _ => false) := by
  cases d <;> first | rfl | decide +kernel | exact absurd rfl (hd _)
theorem Da.nd {S : List Addr} {H : Hp} {d : PyData} {x : V} (h : Da S H x d) : ∀ l, d ≠ .dict l := by
  intro l e
  subst e
  cases h
/-- the built-ins that nobody hides -/
structure Bi (mg : Str → Option Value) : Prop where
  m_isinstance : mg "isinstance" = none
  m_int : mg "int" = none
  m_bool : mg "bool" = none
  m_str : mg "str" = none
  m_tuple : mg "tuple" = none
  m_list : mg "list" = none
  m_len : mg "len" = none
  m_zip : mg "zip" = none
  m_range : mg "range" = none
  m_divmod : mg "divmod" = none
  m_abs : mg "abs" = none
  m_min : mg "min" = none
  m_all : mg "all" = none
section
variable {P : Program} {w : World} {K : PySem.W.Frag} {mg : Str → Option Value} {base : Heap}
/-! ### is_number -/
def spNum : Sp := fun vs H Q _ => ∃ S x d, vs = [x] ∧ Da S H x d ∧ Q (.bl (isInt d)) H
theorem ok_is_number {f : Addr} {fd : FuncData} {k : Nat} (F : Fun K "is_number" "is_number" s_is_number f fd) (T : Bi mg) : FnOk P w K mg base CX0 (k + 1) f fd ["thing"] spNum := by
  refine F.ok sc_is_number (fun vs H Q E h => ?_) (fun cdv A outer s H vs Q E hr h => ?_)
  · obtain ⟨_, _, _, rfl, _⟩ := h
    rfl
  · obtain ⟨S, x, d, rfl, hx, q⟩ := h
    refine ⟨_, (pss_one (ps_ret (pe_and (pe_callB call_isi (by rfl) T.m_isinstance (by decide +kernel) (pa_cons (pv 0) (pa_cons (pe_bltn (v := .ty "int") (by rfl) T.m_int (by decide +kernel) rfl) pa_nil))) (pe_one (pe_not (pe_callB call_isi (by rfl) T.m_isinstance (by decide +kernel) (pa_cons (pv 0) (pa_cons (pe_bltn (v := .ty "bool") (by rfl) T.m_bool (by decide +kernel) rfl) pa_nil)))))))), ?_⟩
    refine ⟨x, rfl, _, _, _, _, _, rfl, .ty _, hx.ty, kit_ty (k_int d hx.nd), _, rfl, ?_⟩
    cases d with
    | bool b => exact ⟨x, rfl, _, _, _, _, _, rfl, .ty _, hx.ty, kit_ty (k_bool _ hx.nd), _, rfl, q⟩
    | int b => exact ⟨x, rfl, _, _, _, _, _, rfl, .ty _, hx.ty, kit_ty (k_bool _ hx.nd), _, rfl, q⟩
    | _ => exact q
/-! ### within -/
def spWithin : Sp := fun vs H Q _ => ∃ S x d lo hi, vs = [x, .int lo, .int hi] ∧ Da S H x d ∧ Q (.bl (inB lo hi d)) H
theorem ok_within {f f1 : Addr} {fd fd1 : FuncData} {k : Nat} (F : Fun K "within" "within" s_within f fd) (F1 : Fun K "is_number" "is_number" s_is_number f1 fd1) (b1 : Binds K fd1 ["thing"] []) (g1 : mg "is_number" = some (.ref f1)) (G1 : FnOk P w K mg base CX0 (k + 1) f1 fd1 ["thing"] spNum) :
    FnOk P w K mg base CX0 (k + 2) f fd ["thing", "low", "high"] spWithin := by
  refine F.ok sc_within (fun vs H Q E h => ?_) (fun cdv A outer s H vs Q E hr h => ?_)
  · obtain ⟨_, _, _, _, _, rfl, _⟩ := h
    rfl
  · obtain ⟨S, x, d, lo, hi, rfl, hx, q⟩ := h
    refine ⟨_, (pss_one (ps_ret (pe_and (pe_call G1 hr (by rfl) g1 F1.kp b1 .nil pass0 (pa_cons (pv 0) pa_nil)) (pe_one (pe_chain op_le op_le (pv 1) (pv 0) (pv 2)))))), ?_⟩
    refine ⟨x, rfl, S, x, d, rfl, hx, _, rfl, ?_⟩
    cases hx with
    | int i =>
      refine ⟨_, rfl, _, rfl, lo, i, rfl, rfl, _, rfl, ?_⟩
      cases e : decide (lo ≤ i) with
      | true =>
        refine ⟨_, rfl, i, hi, rfl, rfl, ?_⟩
        simpa [inB, e] using q
      | false =>
        refine ?_
        simpa [inB, e] using q
    | _ => exact q
/-! ### is_cell -/
def spCell : Sp := fun vs H Q _ => ∃ S x d, vs = [x] ∧ Da S H x d ∧ Q (.bl (inB 0 63 d)) H
theorem ok_is_cell {f f1 : Addr} {fd fd1 : FuncData} {k : Nat} (F : Fun K "is_cell" "is_cell" s_is_cell f fd) (F1 : Fun K "within" "within" s_within f1 fd1) (b1 : Binds K fd1 ["thing", "low", "high"] []) (g1 : mg "within" = some (.ref f1)) (G1 : FnOk P w K mg base CX0 (k + 2) f1 fd1 ["thing", "low", "high"] spWithin) :
    FnOk P w K mg base CX0 (k + 3) f fd ["thing"] spCell := by
  refine F.ok sc_is_cell (fun vs H Q E h => ?_) (fun cdv A outer s H vs Q E hr h => ?_)
  · obtain ⟨_, _, _, rfl, _⟩ := h
    rfl
  · obtain ⟨S, x, d, rfl, hx, q⟩ := h
    refine ⟨_, (pss_one (ps_ret (pe_call G1 hr (by rfl) g1 F1.kp b1 .nil pass0 (pa_cons (pv 0) (pa_cons pe_int (pa_cons pe_int pa_nil)))))), ?_⟩
    exact ⟨x, rfl, S, x, d, 0, 63, rfl, hx, q⟩
/-! ### _law_is_number -/
def spLNum : Sp := fun vs H Q _ => ∃ S x d lo hi, vs = [x, .int lo, .int hi] ∧ Da S H x d ∧ Q (.bl (inB lo (hi - 1) d)) H
end
end K18
set_option Elab.async false
set_option linter.all false
set_option maxRecDepth 100000
set_option maxHeartbeats 4000000
namespace K18
open PySem PySem.Spec PyProof.Rows L2 Kb
/-! ### the mathematics -/
/-- code, word, letters -/
abbrev En : Type := Int × Str × Str
def formL : List En := [(1, "set", "rc"), (2, "copy", "rr"), (3, "plus", "rr"), (4, "less", "rr"), (5, "ask", "r"), (6, "show", "r"), (7, "load", "rD"), (8, "store", "rD"), (9, "item", "rrLD"), (10, "fill", "rrLD"), (11, "take", "pD"), (12, "pick", "prLD"),
  (13, "alike", "rpp"), (14, "call", "d"), (15, "call", "D"), (16, "jump", "d"), (17, "jump", "D"), (18, "if", "rd"), (19, "if", "rD"), (20, "leap", "p"), (21, "return", ""), (22, "stop", ""), (23, "fail", "f"), (27, "by load", "rkD"), (28, "by store", "rkD"),
  (29, "by item", "rrLD"), (30, "by fill", "rrLD"), (31, "by take", "pD"), (32, "by pick", "prLD"), (35, "by call", "D"), (37, "by jump", "D")]
def lawL : List En := [(1, "set", "rc"), (2, "copy", "rr"), (3, "plus", "rr"), (4, "less", "rr"), (5, "ask", "r"), (6, "show", "r"), (7, "load", "rD"), (8, "store", "rD"), (9, "item", "rrLD"), (10, "fill", "rrLD"), (11, "take", "pD"), (12, "pick", "prLD"),
  (13, "alike", "rpp"), (14, "call", "d"), (15, "call", "D"), (16, "jump", "d"), (17, "jump", "D"), (18, "if", "rd"), (19, "if", "rD"), (20, "leap", "p"), (21, "return", ""), (22, "stop", ""), (23, "fail", "f"), (27, "by load", "rcD"), (28, "by store", "rcD"),
  (29, "by item", "rrLD"), (30, "by fill", "rrLD"), (31, "by take", "pD"), (32, "by pick", "prLD"), (35, "by call", "D"), (37, "by jump", "D")]
def limL : List (Str × Int × Int) := [("r", 0, 3), ("p", 0, 1), ("c", 0, 63), ("k", 0, 63), ("f", 0, 62), ("L", 1, 64), ("d", -32, 31), ("D", -2048, 2047)]
/-- a text of one sign -/
def one (c : Nat) : Str := ⟨#[c]⟩
def lets (z : Str) : List Str := z.cps.toList.map one
theorem lets_len (z : Str) : (lets z).length = z.length := by
  show (z.cps.toList.map one).length = z.cps.size
  simp
def lim (z : Str) : Option (Int × Int) := (limL.find? fun q => decide (q.1 = z)).map (·.2)
def isD (z : Str) : Bool := decide (z = ("D" : Str))
/-- how many cells -/
def size (z : Str) : Int := 1 + z.length + Txt.count z "D"
/-- the letters' limits: all there -/
def limsOf (ls : List Str) : Option (List (Int × Int)) := ls.mapM lim
def okLet (z : Str) : Bool := (lim z).isSome && decide (size z = if isD z then 3 else 2)
def okEn (e : En) : Bool := decide (e.2.2.length ≤ 4) && decide (e.2.1.length ≤ 8) && (lets e.2.2).all okLet && decide (size e.2.2 = 1 + e.2.2.length + ((lets e.2.2).filter isD).length) && decide (1 ≤ e.1) && decide (e.1 ≤ 37) && decide (size e.2.2 ≤ 6)
theorem form_ok : ∀ e ∈ formL, okEn e = true := by decide +kernel
theorem law_ok : ∀ e ∈ lawL, okEn e = true := by decide +kernel
/-- the two tables tell the same -/
def alikeEn (e e' : En) : Bool := decide (e.1 = e'.1) && decide (e.2.1 = e'.2.1) && decide ((lets e.2.2).map lim = (lets e'.2.2).map lim) && decide ((lets e.2.2).map isD = (lets e'.2.2).map isD) && decide (size e.2.2 = size e'.2.2) &&
  decide ((lets e.2.2).map (fun z => decide (z = ("d" : Str))) = (lets e'.2.2).map fun z => decide (z = ("d" : Str))) && decide ((lets e.2.2).map (fun z => decide (z = ("L" : Str))) = (lets e'.2.2).map fun z => decide (z = ("L" : Str)))
theorem tables_alike : (formL.zip lawL).all (fun p => alikeEn p.1 p.2) = true ∧ formL.length = 31 ∧ lawL.length = 31 := by decide +kernel
theorem codes_nd : (formL.map (·.1)).Nodup := by decide +kernel
/-! #### cells of a part -/
def encP (z : Str) (p : Int) : List Int := if isD z then [p % 4096 / 64, p % 4096 % 64] else [p % 64]
def encL (z : Str) (p : Int) : List Int := (if isD z then [(p + 4096) % 4096 / 64] else []) ++ [(p + 4096) % 64]
theorem enc_eq (z : Str) (p : Int) : encP z p = encL z p := by
  unfold encP encL
  cases isD z with
  | true =>
    show [p % 4096 / 64, p % 4096 % 64] = [(p + 4096) % 4096 / 64] ++ [(p + 4096) % 64]
    rw [show (p + 4096) % 4096 = p % 4096 by omega, show (p + 4096) % 64 = p % 4096 % 64 by omega] <;> rfl
  | false =>
    show [p % 64] = [] ++ [(p + 4096) % 64]
    rw [show (p + 4096) % 64 = p % 64 by omega] <;> rfl
/-! #### a part of cells -/
def decP (z : Str) (a b : Int) : Int := if z = ("D" : Str) then (a * 64 + b + 2048) % 4096 - 2048 else if z = ("d" : Str) then (a + 32) % 64 - 32 else if z = ("L" : Str) ∧ a = 0 then 64 else a
def decL (z : Str) (a b : Int) : Int := if z = ("D" : Str) then (if a * 64 + b > 2047 then a * 64 + b - 4096 else a * 64 + b) else if z = ("d" : Str) then (if a > 31 then a - 64 else a) else if z = ("L" : Str) then (if a = 0 then 64 else a) else a
theorem dec_eq {z : Str} {a b : Int} (ha : 0 ≤ a) (ha2 : a ≤ 63) (hb : 0 ≤ b) (hb2 : b ≤ 63) : decP z a b = decL z a b := by
  unfold decP decL
  by_cases h1 : z = ("D" : Str)
  · rw [if_pos h1, if_pos h1]
    split <;> omega
  · rw [if_neg h1, if_neg h1]
    by_cases h2 : z = ("d" : Str)
    · rw [if_pos h2, if_pos h2]
      split <;> omega
    · rw [if_neg h2, if_neg h2]
      by_cases h3 : z = ("L" : Str)
      · rw [if_pos h3]
        by_cases h4 : a = 0
        · rw [if_pos ⟨h3, h4⟩, if_pos h4]
        · rw [if_neg (fun q => h4 q.2), if_neg h4]
      · rw [if_neg (fun q => h3 q.1), if_neg h3]
end K18
set_option Elab.async false
set_option linter.all false
set_option maxRecDepth 100000
set_option maxHeartbeats 4000000
namespace K18
open PySem PySem.Spec PyProof.Rows L2 Kb
theorem for_by {J : It} {n : Nat} {g : TG} {tb : TS} {D : Ends} {σ : L2.St} {H : Hp} (Pv : Nat → L2.St → Hp → Prop) (h0 : Pv 0 σ H)
    (hs : ∀ i σ H, i < n → Pv i σ H → J.go i H ∧ ∀ x H', J.yld i H x H' → g x σ H' fun σ2 H2 => tb { D with nx := Pv (i + 1), ct := Pv (i + 1), bk := D.nx } σ2 H2) (hd : ∀ σ H, Pv n σ H → J.stop n H ∧ D.nx σ H) :
    ∃ W : Nat → Nat → L2.St → Hp → Prop, (∃ m, W 0 m σ H) ∧ ∀ i m σ H, W i m σ H →
      (J.stop i H ∧ D.nx σ H) ∨ (J.go i H ∧ ∃ N : L2.St → Hp → Prop, (∀ σ' H', N σ' H' → ∃ m', m' < m ∧ W (i + 1) m' σ' H') ∧ ∀ x H', J.yld i H x H' → g x σ H' fun σ2 H2 => tb { D with nx := N, ct := N, bk := D.nx } σ2 H2) := by
  refine ⟨fun i m σ H => m = n - i ∧ i ≤ n ∧ Pv i σ H, ⟨n, by simp, Nat.zero_le _, h0⟩, ?_⟩
  rintro i m σ H ⟨rfl, hi, p⟩
  by_cases hlt : i < n
  · obtain ⟨h1, h2⟩ := hs i σ H hlt p
    exact .inr ⟨h1, Pv (i + 1), fun σ' H' p' => ⟨n - (i + 1), by omega, rfl, hlt, p'⟩, h2⟩
  · have e : i = n := by omega
    subst e
    exact .inl (hd σ H p)
/-- a written tuple -/
def KT (K : PySem.W.Frag) (a : Addr) (xs : List V) : Prop :=
  ∃ (o : Obj) (its : Array Value) (n : Nat), K.lookup a = some o ∧ o.cls = .type "tuple" ∧ o.data = .seq its n ∧ its.size ≤ sizeLine ∧ Vals xs its.toList
theorem KT.sq {K : PySem.W.Frag} {H : Hp} {a : Addr} {xs : List V} (h : KT K a xs) : SqT K H a xs := .inr h
def FormOk (K : PySem.W.Frag) (p : Key × V) (e : En) : Prop := p.1 = .inl e.1 ∧ ∃ T, p.2 = .ref T ∧ KT K T [.str e.2.1, .str e.2.2]
def LimOk (K : PySem.W.Frag) (p : Key × V) (q : Str × Int × Int) : Prop := p.1 = .inr q.1 ∧ ∃ T, p.2 = .ref T ∧ KT K T [.int q.2.1, .int q.2.2]
/-- what the top's two tables hold -/
structure Dicts (w : World) (K : PySem.W.Frag) (aF aL : Addr) : Prop where
  forms : ∃ kvs, KD w K aF kvs ∧ Paired (FormOk K) kvs formL
  lims : ∃ kvs, KD w K aL kvs ∧ Paired (LimOk K) kvs limL
theorem look_form {K : PySem.W.Frag} {c : Int} : ∀ {kvs : List (Key × V)} {l : List En}, Paired (FormOk K) kvs l →
    (l.find? (fun e => decide (e.1 = c)) = none ∧ valV kvs (.inl c) = none) ∨ ∃ e T, l.find? (fun e => decide (e.1 = c)) = some e ∧ e ∈ l ∧ e.1 = c ∧ valV kvs (.inl c) = some (.ref T) ∧ KT K T [.str e.2.1, .str e.2.2]
  | _, _, .nil => .inl ⟨rfl, rfl⟩
  | _, _, .cons (a := p) (b := e) h r => by
    obtain ⟨h1, T, h2, h3⟩ := h
    obtain ⟨k, v⟩ := p
    dsimp only at h1 h2
    subst h1 h2
    by_cases hc : e.1 = c
    · refine .inr ⟨e, T, ?_, List.mem_cons_self, hc, ?_, h3⟩
      · rw [List.find?_cons, decide_eq_true hc] <;> rfl
      · unfold valV
        rw [List.find?_cons]
        have z : decide ((Sum.inl e.1 : Key) = .inl c) = true := decide_eq_true (congrArg _ hc)
        rw [z] <;> rfl
    · have z : decide ((Sum.inl e.1 : Key) = .inl c) = false := decide_eq_false fun q => hc (Sum.inl.inj q)
      rcases look_form r with ⟨a, b⟩ | ⟨e', T', a, b, b2, b3, b4⟩
      · refine .inl ⟨?_, ?_⟩
        · rw [List.find?_cons, decide_eq_false hc]; exact a
        · unfold valV; rw [List.find?_cons, z]; exact b
      · refine .inr ⟨e', T', ?_, List.mem_cons_of_mem _ b, b2, ?_, b4⟩
        · rw [List.find?_cons, decide_eq_false hc]; exact a
        · unfold valV; rw [List.find?_cons, z]; exact b3
theorem look_lim {K : PySem.W.Frag} {c : Str} {lo hi : Int} : ∀ {kvs : List (Key × V)} {l : List (Str × Int × Int)}, Paired (LimOk K) kvs l → (l.find? fun q => decide (q.1 = c)).map (·.2) = some (lo, hi) →
    ∃ T, valV kvs (.inr c) = some (.ref T) ∧ KT K T [.int lo, .int hi]
  | _, _, .nil, e => by cases e
  | _, _, .cons (a := p) (b := q) h r, e => by
    obtain ⟨h1, T, h2, h3⟩ := h
    obtain ⟨k, v⟩ := p
    dsimp only at h1 h2
    subst h1 h2
    by_cases hc : q.1 = c
    · rw [List.find?_cons, decide_eq_true hc] at e
      have e2 : q.2 = (lo, hi) := Option.some.inj e
      refine ⟨T, ?_, ?_⟩
      · unfold valV
        rw [List.find?_cons]
        have z : decide ((Sum.inr q.1 : Key) = .inr c) = true := decide_eq_true (congrArg _ hc)
        rw [z] <;> rfl
      · rw [e2] at h3
        exact h3
    · rw [List.find?_cons, decide_eq_false hc] at e
      have z : decide ((Sum.inr q.1 : Key) = .inr c) = false := decide_eq_false fun y => hc (Sum.inr.inj y)
      obtain ⟨T', a, b⟩ := look_lim r e
      refine ⟨T', ?_, b⟩
      unfold valV
      rw [List.find?_cons, z]
      exact a
section
variable {P : Program} {w : World} {K : PySem.W.Frag} {mg : Str → Option Value} {base : Heap}
/-! ### size_of -/
def spSize : Sp := fun vs H Q _ => ∃ z : Str, vs = [.str z] ∧ z.length ≤ sizeLine ∧ Q (.int (size z)) H
/-! ### part_cells -/
def spPartCells : Sp := fun vs H Q _ => ∃ (p : Int) (z : Str), vs = [.int p, .str z] ∧ ∀ H' l, Kp [] H H' → H l = none → H' l = some (.lst ((encP z p).map V.int)) → Q (.ref l) H'
/-! ### part_at -/
/-- a list or a tuple of these -/
def SqE (K : PySem.W.Frag) (H : Hp) (a : Addr) (xs : List V) : Prop := SqL K H a xs ∨ SqT K H a xs
theorem atI_at {α : Type} {xs : List α} {n : Nat} {x : α} (h : xs[n]? = some x) : atI xs (n : Int) = some x := by
  have hn : n < xs.length := (List.getElem?_eq_some_iff.mp h).1
  unfold atI ixN
  rw [if_pos (by omega), if_pos (by omega)]
  show (some (Int.toNat n)).bind _ = _
  rw [Int.toNat_natCast]
  exact h
theorem ixE {H : Hp} {a : Addr} {xs : List V} {n : Nat} {x : V} {Q : VK} (h : SqE K H a xs) (e : xs[n]? = some x) (q : Q x H) : rIx K (.ref a) (.int n) H Q := by
  rcases h with h | h
  · exact .inl ⟨a, xs, _, x, rfl, rfl, h, atI_at e, q⟩
  · exact .inr (.inl ⟨a, xs, _, x, rfl, rfl, h, atI_at e, q⟩)
def spPartAt (K : PySem.W.Frag) : Sp := fun vs H Q _ => ∃ (a : Addr) (n : Nat) (z : Str) (ns : List Int) (x y : Int), vs = [.ref a, .int n, .str z] ∧ SqE K H a (ns.map V.int) ∧ ns[n]? = some x ∧ (z = ("D" : Str) → ns[n + 1]? = some y) ∧ -64 ≤ x ∧ x ≤ 64 ∧ Q (.int (decP z x y)) H
end
end K18
set_option Elab.async false
set_option linter.all false
set_option maxRecDepth 100000
set_option maxHeartbeats 4000000
namespace K18
open PySem PySem.Spec PyProof.Rows L2 Kb
theorem Kp.same {H H' : Hp} (k : Kp [] H H') : Same H H' := fun b o e => k b o e (.inr List.not_mem_nil)
theorem SqE.kp {K : PySem.W.Frag} {H H' : Hp} {a : Addr} {xs : List V} (k : Kp [] H H') : SqE K H a xs → SqE K H' a xs
  | .inl h => .inl (k.same.seq h)
  | .inr h => .inr (h.imp (fun q => q.imp (fun e => k.same _ _ e) fun ⟨o, e⟩ => ⟨o, k.same _ _ e⟩) id)
def partOk (p : PyData × Str) : Bool := match lim p.2 with
  | some (lo, hi) => inB lo hi p.1
  | none => false
def partsOk (ds : List PyData) (ls : List Str) : Bool := (ds.zip ls).all partOk
theorem lets_get {z : Str} {i : Nat} {y : V} (h : (Sc.txt z).val i = some y) : ∃ c, y = .str (one c) ∧ (lets z)[i]? = some (one c) := by
  obtain ⟨c, hc, rfl⟩ := Option.map_eq_some_iff.mp (show (z.cps[i]?).map (fun c => V.str ⟨#[c]⟩) = some y from h)
  refine ⟨c, rfl, ?_⟩
  show (z.cps.toList.map one)[i]? = some (one c)
  rw [List.getElem?_map, Array.getElem?_toList, hc] <;> rfl
theorem SqE.sc {K : PySem.W.Frag} {H : Hp} {a : Addr} {xs : List V} (h : SqE K H a xs) : ∃ S : Sc, S.v = .ref a ∧ S.len = xs.length ∧ (∀ i, S.val i = xs[i]?) ∧ (∀ H', SqE K H' a xs → (SqL K H a xs → SqL K H' a xs) → (SqT K H a xs → SqT K H' a xs) → S.ok K H') := by
  rcases h with h | h
  · exact ⟨.lst a xs, rfl, rfl, fun _ => rfl, fun H' _ q _ => q h⟩
  · exact ⟨.tup a xs, rfl, rfl, fun _ => rfl, fun H' _ _ q => q h⟩
theorem sqL_kp {K : PySem.W.Frag} {H H' : Hp} {a : Addr} {xs : List V} (k : Kp [] H H') (h : SqL K H a xs) : SqL K H' a xs := k.same.seq h
theorem sqT_kp {K : PySem.W.Frag} {H H' : Hp} {a : Addr} {xs : List V} (k : Kp [] H H') (h : SqT K H a xs) : SqT K H' a xs := by
  have q : SqE K H' a xs := SqE.kp k (.inr h)
  rcases h with h | h
  · exact .inl (h.imp (fun e => k.same _ _ e) fun ⟨o, e⟩ => ⟨o, k.same _ _ e⟩)
  · exact .inr h
theorem all_take_succ {α : Type} {p : α → Bool} {l : List α} {i : Nat} {x : α} (h : (l.take i).all p = true) (e : l[i]? = some x) : (l.take (i + 1)).all p = p x := by
  rw [List.take_add_one, e, List.all_append, h]
  simp
theorem all_false_at {α : Type} {p : α → Bool} {l : List α} {i : Nat} {x : α} (e : l[i]? = some x) (h : p x = false) : l.all p = false := by
  cases q : l.all p with
  | false => rfl
  | true =>
    have z := List.all_eq_true.mp q x (List.mem_of_getElem? e)
    rw [h] at z
    cases z
section
variable {P : Program} {w : World} {K : PySem.W.Frag} {mg : Str → Option Value} {base : Heap}
/-! ### are_parts -/
def spAreParts (K : PySem.W.Frag) : Sp := fun vs H Q _ => ∃ (S : List Addr) (a : Addr) (xs : List V) (ds : List PyData) (z : Str), vs = [.ref a, .str z] ∧ SqE K H a xs ∧ DaL S H xs ds ∧ (∀ l ∈ lets z, (lim l).isSome = true) ∧
  ∀ H', Kp [] H H' → Q (.bl (partsOk ds (lets z))) H'
end
end K18
set_option Elab.async false
set_option linter.all false
set_option maxRecDepth 100000
set_option maxHeartbeats 4000000
namespace K18
open PySem PySem.Spec PyProof.Rows L2 Kb
/-! #### a walk over cells -/
def wd (z : Str) : Nat := if isD z then 2 else 1
def wds (ls : List Str) : Nat := (ls.map wd).sum
def decs (ns : List Int) : Nat → List Str → List Int
  | _, [] => []
  | j, z :: r => decP z (ns.getD j 0) (ns.getD (j + 1) 0) :: decs ns (j + wd z) r
theorem decs_snoc (ns : List Int) (z : Str) : ∀ (l : List Str) (j : Nat), decs ns j (l ++ [z]) = decs ns j l ++ [decP z (ns.getD (j + wds l) 0) (ns.getD (j + wds l + 1) 0)]
  | [], j => rfl
  | y :: r, j => by
    show decP y _ _ :: decs ns (j + wd y) (r ++ [z]) = decP y _ _ :: (decs ns (j + wd y) r ++ _)
    rw [decs_snoc ns z r (j + wd y)]
    have e : j + wd y + wds r = j + wds (y :: r) := by
      show j + wd y + wds r = j + (wd y + wds r)
      omega
    rw [e]
theorem decs_len (ns : List Int) : ∀ (l : List Str) (j : Nat), (decs ns j l).length = l.length
  | [], _ => rfl
  | _ :: r, j => congrArg (· + 1) (decs_len ns r _)
theorem wds_app (l m : List Str) : wds (l ++ m) = wds l + wds m := by
  unfold wds
  rw [List.map_append, List.sum_append]
theorem wds_filter : ∀ l : List Str, wds l = l.length + (l.filter isD).length
  | [] => rfl
  | z :: r => by
    have ih := wds_filter r
    show wd z + wds r = (z :: r).length + _
    rw [List.filter_cons]
    unfold wd
    cases isD z with
    | true =>
      show 2 + wds r = r.length + 1 + ((r.filter isD).length + 1)
      omega
    | false =>
      show 1 + wds r = r.length + 1 + (r.filter isD).length
      omega
/-- what the row of cells means at n: word, parts, how many cells -/
def senseOf (ns : List Int) (n : Nat) : Option (Str × List Int × Int) := match formL.find? (fun e => decide (e.1 = ns.getD n 0)) with
  | none => none
  | some e => if (ns.length : Int) < n + size e.2.2 then none else if partsOk ((decs ns (n + 1) (lets e.2.2)).map .int) (lets e.2.2) then some (e.2.1, decs ns (n + 1) (lets e.2.2), size e.2.2) else none
def sensePy : Option (Str × List Int × Int) → PyData
  | none => .none
  | some (wd, ps, m) => .tuple [.tuple (.str wd :: ps.map .int), .int m]
theorem okEn_of {e : En} (h : okEn e = true) : e.2.2.length ≤ 4 ∧ e.2.1.length ≤ 8 ∧ (∀ l ∈ lets e.2.2, okLet l = true) ∧ size e.2.2 = 1 + e.2.2.length + ((lets e.2.2).filter isD).length ∧ 1 ≤ e.1 ∧ e.1 ≤ 37 ∧ size e.2.2 ≤ 6 := by
  unfold okEn at h
  simp only [Bool.and_eq_true, decide_eq_true_eq, List.all_eq_true] at h
  obtain ⟨⟨⟨⟨⟨⟨h1, h2⟩, h3⟩, h4⟩, h5⟩, h6⟩, h7⟩ := h
  exact ⟨h1, h2, h3, h4, h5, h6, h7⟩
theorem okLet_of {z : Str} (h : okLet z = true) : (lim z).isSome = true ∧ size z = if isD z then 3 else 2 := by
  unfold okLet at h
  obtain ⟨h1, h2⟩ := Bool.and_eq_true_iff.mp h
  exact ⟨h1, of_decide_eq_true h2⟩
theorem size_wds {e : En} (h : okEn e = true) : size e.2.2 = 1 + wds (lets e.2.2) := by
  obtain ⟨_, _, _, h4, _⟩ := okEn_of h
  rw [h4, wds_filter, lets_len]
  omega
theorem small {n : Nat} (h : n ≤ 1000) : n ≤ sizeLine := Nat.le_of_lt (small1000 (by omega))
theorem wds_le : ∀ l : List Str, l.length ≤ wds l
  | [] => Nat.le_refl _
  | z :: r => by
    have ih := wds_le r
    show r.length + 1 ≤ wd z + wds r
    have : 1 ≤ wd z := by
      unfold wd
      split <;> omega
    omega
section
variable {P : Program} {w : World} {K : PySem.W.Frag} {mg : Str → Option Value} {base : Heap}
/-! ### sense_in -/
def Cells (ns : List Int) : Prop := ∀ x ∈ ns, 0 ≤ x ∧ x ≤ 63
def spSenseIn (K : PySem.W.Frag) : Sp := fun vs H Q _ => ∃ (a : Addr) (n : Nat) (ns : List Int), vs = [.ref a, .int n] ∧ SqE K H a (ns.map V.int) ∧ n < ns.length ∧ ns.length ≤ 1000 ∧ Cells ns ∧ ∀ x H', Kp [] H H' → (∀ S, Da S H' x (sensePy (senseOf ns n))) → Q x H'
end
end K18
set_option Elab.async false
set_option linter.all false
set_option maxRecDepth 100000
set_option maxHeartbeats 4000000
namespace K18
open PySem PySem.Spec PyProof.Rows L2 Kb
def isSeq : PyData → Bool
  | .tuple _ => true
  | .list _ => true
  | _ => false
def dsOf : PyData → List PyData
  | .tuple ds => ds
  | .list ds => ds
  | _ => []
def cellsOk (d : PyData) : Bool := isSeq d && (dsOf d).all (inB 0 63)
theorem kit_seq {K : PySem.W.Frag} (d : PyData) (hd : ∀ l, d ≠ .dict l) : PySem.W.kitAny K (.type (tyD d)) [.type "tuple", .type "list"] = some (isSeq d) := by
  cases d with
  | dict l => exact absurd rfl (hd l)
  | tuple ds => exact kitAny_cons (b := true) (kit_ty (a := "tuple") (by decide +kernel)) (fun z => Bool.noConfusion z) fun _ => rfl
  | list ds => exact kitAny_cons (b := false) (kit_ty (a := "list") (by decide +kernel)) (fun _ => kitAny_cons (b := true) (kit_ty (a := "list") (by decide +kernel)) (fun z => Bool.noConfusion z) fun _ => rfl) fun z => Bool.noConfusion z
  | none => exact kitAny_cons (b := false) (kit_ty (a := "NoneType") (by decide +kernel)) (fun _ => kitAny_cons (b := false) (kit_ty (a := "NoneType") (by decide +kernel)) (fun _ => rfl) fun z => Bool.noConfusion z) fun z => Bool.noConfusion z
  | bool ds => exact kitAny_cons (b := false) (kit_ty (a := "bool") (by decide +kernel)) (fun _ => kitAny_cons (b := false) (kit_ty (a := "bool") (by decide +kernel)) (fun _ => rfl) fun z => Bool.noConfusion z) fun z => Bool.noConfusion z
  | int ds => exact kitAny_cons (b := false) (kit_ty (a := "int") (by decide +kernel)) (fun _ => kitAny_cons (b := false) (kit_ty (a := "int") (by decide +kernel)) (fun _ => rfl) fun z => Bool.noConfusion z) fun z => Bool.noConfusion z
  | str ds => exact kitAny_cons (b := false) (kit_ty (a := "str") (by decide +kernel)) (fun _ => kitAny_cons (b := false) (kit_ty (a := "str") (by decide +kernel)) (fun _ => rfl) fun z => Bool.noConfusion z) fun z => Bool.noConfusion z
theorem find_at {α : Type} {p : α → Bool} {x : α} : ∀ {l : List α} {i : Nat}, (l.take i).all (fun e => !p e) = true → l[i]? = some x → p x = true → l.find? p = some x
  | [], _, _, e, _ => by simp at e
  | y :: r, 0, _, e, h => by
    have e2 : y = x := Option.some.inj e
    subst e2
    rw [List.find?_cons, h]
  | y :: r, i + 1, ha, e, h => by
    rw [List.take_succ_cons, List.all_cons] at ha
    obtain ⟨h1, h2⟩ := Bool.and_eq_true_iff.mp ha
    have h3 : p y = false := by
      cases q : p y with
      | false => rfl
      | true => rw [q] at h1; cases h1
    rw [List.find?_cons, h3]
    exact find_at h2 e h
theorem find_no {α : Type} {p : α → Bool} {l : List α} (h : l.all (fun e => !p e) = true) : l.find? p = none := by
  rw [List.find?_eq_none]
  intro x hx
  have := List.all_eq_true.mp h x hx
  simpa using this
theorem paired_get {α β : Type} {F : α → β → Prop} {y : β} : ∀ {l : List α} {m : List β} {i : Nat}, Paired F l m → m[i]? = some y → ∃ x, l[i]? = some x ∧ F x y
  | _, _, _, .nil, e => by simp at e
  | _ :: _, _ :: _, 0, .cons h _, e => ⟨_, rfl, Option.some.inj e ▸ h⟩
  | _ :: l, _ :: m, i + 1, .cons _ r, e => paired_get (l := l) (m := m) (i := i) r (by simpa using e)
theorem paired_len {α β : Type} {F : α → β → Prop} : ∀ {l : List α} {m : List β}, Paired F l m → l.length = m.length
  | _, _, .nil => rfl
  | _, _, .cons _ r => congrArg (· + 1) (paired_len r)
theorem DaL.cells {S : List Addr} {H : Hp} : ∀ {xs : List V} {ds : List PyData}, DaL S H xs ds → ds.all (inB 0 63) = true → ∃ ns : List Int, xs = ns.map V.int ∧ ds = ns.map PyData.int ∧ Cells ns
  | _, _, .nil, _ => ⟨[], rfl, rfl, fun _ h => nomatch h⟩
  | _, _, .cons h r, e => by
    rw [List.all_cons] at e
    obtain ⟨e1, e2⟩ := Bool.and_eq_true_iff.mp e
    obtain ⟨i, rfl, h1, h2⟩ := inB_int e1
    cases h
    obtain ⟨ns, rfl, rfl, hc⟩ := DaL.cells r e2
    exact ⟨i :: ns, rfl, rfl, fun x hx => by
      rcases List.mem_cons.mp hx with z | z
      · subst z; exact ⟨h1, h2⟩
      · exact hc x z⟩
/-- does the entry fit? -/
def headIs : List PyData → Str → Bool
  | .str x :: _, y => decide (y = x)
  | _, _ => false
def fits (ds : List PyData) (m : PyData) (e : En) : Bool := headIs ds e.2.1 && inB (size e.2.2) (size e.2.2) m && decide ((ds.length : Int) = 1 + e.2.2.length) && partsOk (ds.drop 1) (lets e.2.2)
def codeOf (d m : PyData) : Option En := match d with
  | .tuple ds => formL.find? (fits ds m)
  | _ => none
def intOf : PyData → Int
  | .int i => i
  | _ => 0
def encs (ps : List (PyData × Str)) : List Int := ps.flatMap fun p => encP p.2 (intOf p.1)
def instrOf (ds : List PyData) (e : En) : List Int := e.1 :: encs ((ds.drop 1).zip (lets e.2.2))
section
variable {P : Program} {w : World} {K : PySem.W.Frag} {mg : Str → Option Value} {base : Heap}
/-! ### are_cells -/
def spAreCells (P1 : Addr) : Sp := fun vs H Q _ => ∃ S x d, vs = [x] ∧ Da S H x d ∧ P1 ∈ S ∧ GxR.TabG H P1 ∧ ∀ H', Kp [P1] H H' → GxR.TabG H' P1 → Q (.bl (cellsOk d)) H'
theorem tabG_put {P1 p : Addr} {H : Hp} {o : HO} (h : GxR.TabG H P1) (n : H p = none) : GxR.TabG (upd H p o) P1 := by
  obtain ⟨ps, e, t⟩ := h
  exact ⟨ps, by rw [upd_ne (ne_of_none e n)]; exact e, t⟩
theorem kp_tab {P1 : Addr} {H H' : Hp} (hG : GxR.TabG H P1) (h : GxR.Tabbed P1 H H') : Kp [P1] H H' := fun b o e q => by
  by_cases hb : b = P1
  · subst hb
    rcases q with q | q
    · obtain ⟨ps, e2, _⟩ := hG
      rw [e] at e2
      cases e2
      cases q
    · exact absurd (List.mem_singleton.mpr rfl) q
  · rw [h.2 b hb]
    exact e
theorem ok_are_cells {f f1 c1 P1 : Addr} {fd fd1 : FuncData} {k : Nat} (F : Fun K "are_cells" "are_cells" s_are_cells f fd) (T : Bi mg) (hc : fd.code = .ref c1) (TB1 : GxR.TabB base mg c1 P1)
    (F1 : Fun K "is_cell" "is_cell" s_is_cell f1 fd1) (b1 : Binds K fd1 ["thing"] []) (g1 : mg "is_cell" = some (.ref f1)) (G1 : FnOk P w K mg base CX0 (k + 3) f1 fd1 ["thing"] spCell) :
    FnOk P w K mg base CX0 (k + 7) f fd ["thing"] (spAreCells P1) := by
  refine okC0 F hc sc_are_cells (fun vs H Q E h => ?_) (fun A outer s H vs Q E hr h => ?_)
  · obtain ⟨_, _, _, rfl, _⟩ := h
    rfl
  · obtain ⟨S, x, d, rfl, hx, hP, hG, q⟩ := h
    refine ⟨_, (pss_one (ps_ret (pe_and (pe_callB call_isiT (by rfl) T.m_isinstance (by decide +kernel) (pa_cons (pv 0) (pa_cons (pe_tup (pa_cons (pe_bltn (v := .ty "tuple") (by rfl) T.m_tuple (by decide +kernel) rfl) (pa_cons (pe_bltn (v := .ty "list") (by rfl) T.m_list (by decide +kernel) rfl) pa_nil))) pa_nil))) (pe_one (pe_allG (own := ["cell"]) hr (by rfl) T.m_all (by decide +kernel) rfl TB1 rfl (genOk_by (by rfl)) (pi_LT (pv 0)) (fun s H C code fp => pg_name (i := 1) (show (["thing", "cell"] : List Str).Nodup by decide) rfl (.inl rfl)) (fun s H C code fp => pe_call G1 ((hr.in1.in1.deeper _).mono (by omega)) (by rfl) g1 F1.kp b1 .nil pass0 (pa_cons (pv 1) pa_nil))))))), ?_⟩
    refine ⟨x, rfl, small (by show 2 ≤ 1000; omega), fun t nt => ?_⟩
    have k1 : Kp S H (upd H t (.tup [.ty "tuple", .ty "list"])) := Kp.new nt
    have k1' : Kp [P1] H (upd H t (.tup [.ty "tuple", .ty "list"])) := Kp.new nt
    have hx1 := hx.kp k1
    refine ⟨x, t, _, _, _, _, rfl, upd_same, .cons (.ty _) (.cons (.ty _) .nil), hx1.ty, kit_seq d hx.nd, _, rfl, ?_⟩
    cases hs : isSeq d with
    | false =>
      have e : cellsOk d = false := by unfold cellsOk; rw [hs] <;> rfl
      rw [e] at q
      exact q _ k1' (tabG_put hG nt)
    | true =>
      have e : cellsOk d = (dsOf d).all (inB 0 63) := by unfold cellsOk; rw [hs] <;> rfl
      rw [e] at q
      refine ite2 (fun _ => ?_) fun y => absurd rfl y
      have fin : ∀ (J : It) (xs : List V) (ds : List PyData) (H2 : Hp), Kp [P1] H H2 → GxR.TabG H2 P1 → DaL S H2 xs ds → ds = dsOf d → (∀ i, i < xs.length → J.go i H2) → (∀ i v H', J.yld i H2 v H' → H' = H2 ∧ (i < xs.length → xs[i]? = some v)) → J.stop xs.length H2 →
          ∃ W : Nat → Nat → Hp → Prop, (∃ m, W 0 m H2) ∧ Turns J (gName 1) (tCall spCell [] E0 (tCons (tVar 1) tNil)) ([some x] ++ List.replicate 1 none) 1 false (fun H => Q (.bl true) H) (fun H => Q (.bl false) H) W := by
        intro J xs ds H2 k2 g2 hD ed hgo hyl hst
        refine ⟨fun i m H3 => m = xs.length - i ∧ i ≤ xs.length ∧ H3 = H2 ∧ (ds.take i).all (inB 0 63) = true, ⟨xs.length, by omega, by omega, rfl, rfl⟩, ?_⟩
        rintro i m H3 ⟨rfl, hi, rfl, hall⟩
        by_cases hlt : i < xs.length
        · refine .inr ⟨hgo i hlt, fun v H' hy => ?_⟩
          obtain ⟨rfl, hv⟩ := hyl i v H' hy
          obtain ⟨v', dv, gx, gd, dx⟩ := hD.get i hlt
          cases (hv hlt).symm.trans gx
          refine ⟨rfl, v, rfl, S, v, dv, rfl, dx, _, rfl, fun e0 => ?_, fun e1 => ?_⟩
          · have := q _ k2 g2
            rw [← ed, all_false_at gd e0] at this
            exact this
          · refine ⟨xs.length - (i + 1), by omega, rfl, by omega, rfl, ?_⟩
            rw [all_take_succ hall gd]
            exact e1
        · have e : i = xs.length := by omega
          subst e
          refine .inl ⟨hst, ?_⟩
          rw [hD.len, List.take_length] at hall
          have := q _ k2 g2
          rw [← ed, hall] at this
          exact this
      cases hx with
      | @lst a xs ds ea na hD =>
        have e1 : upd H t (.tup [.ty "tuple", .ty "list"]) a = some (.lst xs) := k1 a _ ea (.inr na)
        refine ⟨.ref a, rfl, a, rfl, .inl ⟨⟨xs, sqL e1⟩, tabG_put hG nt, fun H2 hT => ?_⟩⟩
        have k2 : Kp [P1] (upd H t (.tup [.ty "tuple", .ty "list"])) H2 := kp_tab (tabG_put hG nt) hT
        have k2S : Kp S (upd H t (.tup [.ty "tuple", .ty "list"])) H2 := k2.mono fun b hb => List.mem_singleton.mp hb ▸ hP
        have e2 : H2 a = some (.lst xs) := k2S a _ e1 (.inr na)
        refine fin _ xs ds H2 (k1'.trans k2) hT.1 ((hD.kp k1).kp k2S) rfl (fun i hi => ⟨xs, _, sqL e2, List.getElem?_eq_getElem hi⟩) (fun i v H' hy => ⟨hy.1, fun _ => hy.2 xs (sqL e2)⟩) ⟨xs, sqL e2, Nat.le_refl _⟩
      | @tup a xs ds ea hD =>
        have e1 : upd H t (.tup [.ty "tuple", .ty "list"]) a = some (.tup xs) := k1.tup ea
        refine ⟨.ref a, rfl, a, rfl, .inr ⟨⟨xs, sqT e1⟩, tabG_put hG nt, fun H2 hT => ?_⟩⟩
        have k2 : Kp [P1] (upd H t (.tup [.ty "tuple", .ty "list"])) H2 := kp_tab (tabG_put hG nt) hT
        have k2S : Kp S (upd H t (.tup [.ty "tuple", .ty "list"])) H2 := k2.mono fun b hb => List.mem_singleton.mp hb ▸ hP
        have e2 : H2 a = some (.tup xs) := k2S.tup e1
        refine fin _ xs ds H2 (k1'.trans k2) hT.1 ((hD.kp k1).kp k2S) rfl (fun i hi => ⟨xs, _, sqT e2, List.getElem?_eq_getElem hi⟩) (fun i v H' hy => ⟨hy.1, fun _ => hy.2 xs (sqT e2)⟩) ⟨xs, sqT e2, Nat.le_refl _⟩
      | _ => cases hs
end
end K18
set_option Elab.async false
set_option linter.all false
set_option maxRecDepth 100000
set_option maxHeartbeats 4000000
namespace K18
open PySem PySem.Spec PyProof.Rows L2 Kb
/-- an error class of the program, directly made -/
structure Ec (K : PySem.W.Frag) (mg : Str → Option Value) (x : Str) (C : Addr) : Prop where
  exc : PySem.W.excIn K C He.veBase "ValueError.__new__" = true
  g : mg x = some (.ref C)
  kp : PySem.W.keepIn K (.ref C) = true
  sub : PySem.W.subIn K (.ref C) (.type "BaseException") = some true
  ty : PySem.W.typeIn K (.ref C) = some (.type "type")
theorem len_of {K : PySem.W.Frag} {S : List Addr} {H : Hp} {x : V} {d : PyData} (h : Da S H x d) (hs : isSeq d = true) : LenV K x H (dsOf d).length := by
  cases h with
  | lst e n hD => exact .inl ⟨_, sqL e, hD.len.symm⟩
  | tup e hD => exact .inr ⟨_, sqT e, hD.len.symm⟩
  | _ => cases hs
theorem Da.cells {K : PySem.W.Frag} {S : List Addr} {H : Hp} {x : V} {d : PyData} (h : Da S H x d) (hc : cellsOk d = true) : ∃ a ns, x = .ref a ∧ dsOf d = ns.map PyData.int ∧ Cells ns ∧ ∀ H', Kp S H H' → SqE K H' a (ns.map V.int) := by
  unfold cellsOk at hc
  obtain ⟨h1, h2⟩ := Bool.and_eq_true_iff.mp hc
  cases h with
  | @lst a xs ds e n hD =>
    obtain ⟨ns, rfl, e2, hC⟩ := hD.cells h2
    exact ⟨a, ns, rfl, e2, hC, fun H' k => .inl (sqL (k a _ e (.inr n)))⟩
  | @tup a xs ds e hD =>
    obtain ⟨ns, rfl, e2, hC⟩ := hD.cells h2
    exact ⟨a, ns, rfl, e2, hC, fun H' k => .inr (sqT (k.tup e))⟩
  | _ => cases h1
section
variable {P : Program} {w : World} {K : PySem.W.Frag} {mg : Str → Option Value} {base : Heap}
/-! ### sense_at -/
def nOf : PyData → Nat
  | .int i => i.toNat
  | _ => 0
def isOf (d : PyData) : List Int := (dsOf d).map intOf
def spSenseAt (P1 CC CI : Addr) : Sp := fun vs H Q E => ∃ S x d y m, vs = [x, y] ∧ Da S H x d ∧ Da S H y m ∧ P1 ∈ S ∧ GxR.TabG H P1 ∧ (dsOf d).length ≤ 1000 ∧
  (cellsOk d = false → ∀ H', Kp [P1] H H' → GxR.TabG H' P1 → E (.ref CC) none H') ∧
  (cellsOk d = true → inB 0 ((dsOf d).length - 1) m = false → ∀ H', Kp [P1] H H' → GxR.TabG H' P1 → E (.ref CI) none H') ∧
  (cellsOk d = true → inB 0 ((dsOf d).length - 1) m = true → ∀ x' H', Kp [P1] H H' → GxR.TabG H' P1 → (∀ S', Da S' H' x' (sensePy (senseOf (isOf d) (nOf m)))) → Q x' H')
theorem kp_nil {S : List Addr} {H H' : Hp} (k : Kp [] H H') : Kp S H H' := k.of
theorem tabG_kp {P1 : Addr} {H H' : Hp} (h : GxR.TabG H P1) (k : Kp [] H H') : GxR.TabG H' P1 := by
  obtain ⟨ps, e, t⟩ := h
  exact ⟨ps, k.same _ _ e, t⟩
end
end K18
set_option Elab.async false
set_option linter.all false
set_option maxRecDepth 100000
set_option maxHeartbeats 4000000
namespace K18
open PySem PySem.Spec PyProof.Rows L2 Kb
theorem cut_one (xs : List V) : cutV xs (some 1) none = xs.drop 1 := by
  unfold cutV
  rw [show HT.sIx xs.length 0 (some 1) = min 1 xs.length from HT.sIx_nat xs.length 0 1, HT.sIx_none]
  cases xs with
  | nil => rfl
  | cons x r =>
    rw [show min 1 (x :: r).length = 1 by
      rw [List.length_cons]
      omega]
    show (List.take ((x :: r).length - 1) r) = r
    rw [List.length_cons, Nat.add_sub_cancel]
    exact List.take_length
theorem not_full {xs : List V} (h : xs ≠ []) : ¬ (HT.sIx xs.length 0 (some 1) = 0 ∧ HT.sIx xs.length xs.length none = xs.length) := fun y => by
  have e : HT.sIx xs.length 0 (some 1) = min 1 xs.length := HT.sIx_nat xs.length 0 1
  rw [e] at y
  have : xs.length ≠ 0 := fun z => h (List.length_eq_zero_iff.mp z)
  omega
section
variable {P : Program} {w : World} {K : PySem.W.Frag} {mg : Str → Option Value} {base : Heap}
/-! ### code_of -/
def codeV : Option En → V
  | none => .non
  | some e => .int e.1
def spCodeOf : Sp := fun vs H Q _ => ∃ S x d y m, vs = [x, y] ∧ Da S H x d ∧ Da S H y m ∧ (dsOf d).length ≤ 1000 ∧ ∀ H', Kp [] H H' → Q (codeV (codeOf d m)) H'
end
end K18
set_option Elab.async false
set_option linter.all false
set_option maxRecDepth 100000
set_option maxHeartbeats 4000000
namespace K18
open PySem PySem.Spec PyProof.Rows L2 Kb
theorem encP_len (z : Str) (p : Int) : (encP z p).length ≤ 2 := by
  unfold encP
  split
  · exact Nat.le_refl 2
  · exact Nat.le_succ 1
theorem encs_len : ∀ ps : List (PyData × Str), (encs ps).length ≤ 2 * ps.length
  | [] => Nat.le_refl 0
  | p :: r => by
    have ih := encs_len r
    have h := encP_len p.2 (intOf p.1)
    show (encP p.2 (intOf p.1) ++ encs r).length ≤ 2 * (r.length + 1)
    rw [List.length_append]
    omega
theorem encs_snoc (l : List (PyData × Str)) (p : PyData × Str) : encs (l ++ [p]) = encs l ++ encP p.2 (intOf p.1) := by
  unfold encs
  rw [List.flatMap_append]
  simp
theorem fits_of {ds : List PyData} {m : PyData} {e : En} (h : fits ds m e = true) : headIs ds e.2.1 = true ∧ inB (size e.2.2) (size e.2.2) m = true ∧ (ds.length : Int) = 1 + e.2.2.length ∧ partsOk (ds.drop 1) (lets e.2.2) = true := by
  unfold fits at h
  obtain ⟨h, h4⟩ := Bool.and_eq_true_iff.mp h
  obtain ⟨h, h3⟩ := Bool.and_eq_true_iff.mp h
  obtain ⟨h1, h2⟩ := Bool.and_eq_true_iff.mp h
  exact ⟨h1, h2, of_decide_eq_true h3, h4⟩
theorem codeOf_of {d m : PyData} {e : En} (h : codeOf d m = some e) : ∃ ds, d = .tuple ds ∧ e ∈ formL ∧ fits ds m e = true := by
  cases d with
  | tuple ds => exact ⟨ds, rfl, List.mem_of_find?_eq_some h, List.find?_some h⟩
  | _ => cases h
theorem find_code : ∀ {l : List En} {e : En}, (l.map (·.1)).Nodup → e ∈ l → l.find? (fun x => decide (x.1 = e.1)) = some e
  | y :: r, e, hn, h => by
    rw [List.map_cons, List.nodup_cons] at hn
    rw [List.find?_cons]
    by_cases hy : y.1 = e.1
    · rw [decide_eq_true hy]
      rcases List.mem_cons.mp h with z | z
      · rw [z]
      · exact absurd (List.mem_map.mpr ⟨e, z, hy.symm⟩) hn.1
    · rw [decide_eq_false hy]
      rcases List.mem_cons.mp h with z | z
      · exact absurd (congrArg _ z.symm) hy
      · exact find_code hn.2 z
section
variable {P : Program} {w : World} {K : PySem.W.Frag} {mg : Str → Option Value} {base : Heap}
/-! ### instruction -/
def spInstr (CS : Addr) : Sp := fun vs H Q E => ∃ S x d y m, vs = [x, y] ∧ Da S H x d ∧ Da S H y m ∧ (dsOf d).length ≤ 1000 ∧
  (codeOf d m = none → ∀ H', Kp [] H H' → E (.ref CS) none H') ∧
  (∀ e, codeOf d m = some e → ∀ H' p, Kp [] H H' → H' p = some (.tup ((instrOf (dsOf d) e).map V.int)) → Q (.ref p) H')
end
end K18
set_option Elab.async false
set_option linter.all false
set_option maxRecDepth 100000
set_option maxHeartbeats 4000000
namespace K18
open PySem PySem.Spec PyProof.Rows L2 Kb
/-! ### the draw -/
def drawKV (w c : Addr) (r t : Int) : List (Key × V) := [(.inr "wide", .ref w), (.inr "cells", .ref c), (.inr "rest", .int r), (.inr "turn", .int t)]
theorem dr_w (w c : Addr) (r t : Int) : valV (drawKV w c r t) (.inr "wide") = some (.ref w) := rfl
theorem dr_c (w c : Addr) (r t : Int) : valV (drawKV w c r t) (.inr "cells") = some (.ref c) := rfl
theorem dr_r (w c : Addr) (r t : Int) : valV (drawKV w c r t) (.inr "rest") = some (.int r) := rfl
theorem dr_t (w c : Addr) (r t : Int) : valV (drawKV w c r t) (.inr "turn") = some (.int t) := rfl
theorem dp_r (w c : Addr) (r t r' : Int) : putK (drawKV w c r t) (.inr "rest") (.int r') = drawKV w c r' t := rfl
theorem dp_t (w c : Addr) (r t t' : Int) : putK (drawKV w c r t) (.inr "turn") (.int t') = drawKV w c r t' := rfl
section
variable {H : Hp} {d w c : Addr} {r t : Int}
theorem get_w (e : H d = some (.dK (drawKV w c r t))) : DGet H d (.str "wide") (some (.ref w)) := dr_w w c r t ▸ DGet.k (k := .inr "wide") e
theorem get_c (e : H d = some (.dK (drawKV w c r t))) : DGet H d (.str "cells") (some (.ref c)) := dr_c w c r t ▸ DGet.k (k := .inr "cells") e
theorem get_r (e : H d = some (.dK (drawKV w c r t))) : DGet H d (.str "rest") (some (.int r)) := dr_r w c r t ▸ DGet.k (k := .inr "rest") e
theorem get_t (e : H d = some (.dK (drawKV w c r t))) : DGet H d (.str "turn") (some (.int t)) := dr_t w c r t ▸ DGet.k (k := .inr "turn") e
theorem four_line : (drawKV w c r t).length < sizeLine := by
  show 4 < sizeLine
  rw [sizeLine_eq]
  decide
theorem put_r {r' : Int} (e : H d = some (.dK (drawKV w c r t))) : DPut H d (.str "rest") (.int r') (upd H d (.dK (drawKV w c r' t))) := dp_r w c r t r' ▸ DPut.k (k := .inr "rest") (v := .int r') e four_line
theorem put_t {t' : Int} (e : H d = some (.dK (drawKV w c r t))) : DPut H d (.str "turn") (.int t') (upd H d (.dK (drawKV w c r t'))) := dp_t w c r t t' ▸ DPut.k (k := .inr "turn") (v := .int t') e four_line
end
/-- the draw stands; its turn is at most N -/
structure Dr (H : Hp) (d w c : Addr) (N : Nat) : Prop where
  at_ : ∃ r t, H d = some (.dK (drawKV w c r t)) ∧ 0 ≤ t ∧ t ≤ N
  wide : ∃ ws : List Int, H w = some (.lst (ws.map V.int)) ∧ ws.length ≤ 1000
  cells : ∃ cs : List Int, H c = some (.lst (cs.map V.int)) ∧ cs.length ≤ 1000
theorem Dr.kp {H H' : Hp} {d w c : Addr} {N : Nat} {S : List Addr} (D : Dr H d w c N) (k : Kp S H H') (hd : d ∉ S) (hw : w ∉ S) (hc : c ∉ S) : Dr H' d w c N := by
  obtain ⟨⟨r, t, e, h1, h2⟩, ⟨ws, ew, lw⟩, ⟨cs, ec, lc⟩⟩ := D
  exact ⟨⟨r, t, k _ _ e (.inr hd), h1, h2⟩, ⟨ws, k _ _ ew (.inr hw), lw⟩, ⟨cs, k _ _ ec (.inr hc), lc⟩⟩
theorem Dr.kp0 {H H' : Hp} {d w c : Addr} {N : Nat} (D : Dr H d w c N) (k : Kp [] H H') : Dr H' d w c N := D.kp k List.not_mem_nil List.not_mem_nil List.not_mem_nil
theorem Dr.ne {H : Hp} {d w c : Addr} {N : Nat} (D : Dr H d w c N) : d ≠ w ∧ d ≠ c := by
  obtain ⟨⟨r, t, e, h1, h2⟩, ⟨ws, ew, lw⟩, ⟨cs, ec, lc⟩⟩ := D
  exact ⟨(fun z => by rw [z, ew] at e; cases e), (fun z => by rw [z, ec] at e; cases e)⟩
theorem Dr.mono {H : Hp} {d w c : Addr} {N M : Nat} (D : Dr H d w c N) (h : N ≤ M) : Dr H d w c M :=
  let ⟨⟨r, t, e, h1, h2⟩, b, c⟩ := D; ⟨⟨r, t, e, h1, by omega⟩, b, c⟩
/-- what stands at S may change: a list's, a dict's place -/
theorem Kp.set {S : List Addr} {H0 H : Hp} {p : Addr} {o : HO} (a : Kp S H0 H) (hp : p ∈ S) (hn : ∀ u, H p = some u → isTup u = false) : Kp S H0 (upd H p o) := fun b x e h => by
  have q := a b x e h
  by_cases hb : b = p
  · subst hb
    rcases h with h | h
    · rw [hn x q] at h
      cases h
    · exact absurd hp h
  · rw [upd_ne hb]
    exact q
theorem shaped_ints (ns : List Int) : SeqAt.shaped (.list (ns.map PyData.int)) = true := by
  have h1 : ∀ ns : List Int, PyData.canLayAll0 (ns.map PyData.int) = true ∧ PyData.depthAll (ns.map PyData.int) = 0 := by
    intro ns
    induction ns with
    | nil => exact ⟨rfl, rfl⟩
    | cons i r ih =>
      refine ⟨?_, ?_⟩
      · show (true && PyData.canLayAll0 (r.map PyData.int)) = true
        rw [ih.1] <;> rfl
      · show max 0 (PyData.depthAll (r.map PyData.int)) = 0
        rw [ih.2] <;> rfl
  unfold SeqAt.shaped
  have e1 : (PyData.list (ns.map PyData.int)).canLay0 = true := (h1 ns).1
  have e2 : (PyData.list (ns.map PyData.int)).depth = 1 := by
    show PyData.depthAll _ + 1 = 1
    rw [(h1 ns).2]
  rw [e1, e2] <;> rfl
theorem hu1 {k : Nat} {A : Around} (r : Room k A) : A.units + 1 < cLine := by have := r.un; omega
section
variable {P : Program} {w : World} {K : PySem.W.Frag} {mg : Str → Option Value} {base : Heap}
/-! ### _law_mixed -/
def spMixed : Sp := fun vs H Q _ => ∃ d w c N, vs = [.ref d] ∧ Dr H d w c N ∧ N ≤ 1000000000 ∧ ∀ H' i, Kp [d] H H' → Dr H' d w c (N + 1) → Q (.int i) H'
theorem ok_mixed {f : Addr} {fd : FuncData} {k : Nat} (F : Fun K "_law_mixed" "_law_mixed" s_l_mixed f fd) (T : Bi mg) : FnOk P w K mg base CX0 (k + 1) f fd ["draw"] spMixed := by
  refine F.ok sc_l_mixed (fun vs H Q E h => ?_) (fun cdv A outer s H vs Q E hr h => ?_)
  · obtain ⟨_, _, _, _, rfl, _⟩ := h
    rfl
  · obtain ⟨d, w, c, N, rfl, hD, hN, q⟩ := h
    refine ⟨_, (pss_cons (ps_par (i := 1) (j := 2) (by rfl) sc_l_mixed.nd rfl rfl (by decide) rfl rfl (pa_cons (pe_op op_add (pe_dget (hu1 hr) (pv 0) pe_str (fun _ _ => rfl)) pe_int) (pa_cons pe_int pa_nil)) (by rfl))
      (pss_cons (ps_dput (hu1 hr) (pv 0) pe_str (pv 1) rfl)
      (pss_cons (ps_for PassesOwn.never rfl (pi_list (pe_lst (pa_cons pe_int (pa_cons pe_int (pa_cons pe_int (pa_cons pe_int pa_nil)))))) (pg_name (i := 3) sc_l_mixed.nd rfl (.inl rfl)) (pss_cons (ps_set (i := 4) sc_l_mixed.nd rfl (.inl rfl) (pe_op op_add (pe_op op_mul pe_int (pv 1)) (pe_op op_fdiv (pv 3) pe_int)))
        (pss_cons (ps_for PassesOwn.never rfl (pi_list (pe_dget (hu1 hr) (pv 0) pe_str (fun _ _ => rfl))) (pg_name (i := 5) sc_l_mixed.nd rfl (.inl rfl)) (pss_one (ps_set (i := 4) sc_l_mixed.nd rfl (.inl rfl) (pe_op op_mod (pe_callTy call_int1 (by rfl) T.m_int (by decide +kernel) (pa_cons (pe_op op_add (pe_op op_add (pe_op op_mul (pv 4) pe_int) (pv 5)) (pv 1)) pa_nil)) (pv 3)))))
        (pss_one (ps_set (i := 2) sc_l_mixed.nd rfl (.inl rfl) (pe_op op_add (pe_op op_mul (pv 2) pe_int) (pe_op op_mod (pe_callTy call_int1 (by rfl) T.m_int (by decide +kernel) (pa_cons (pe_op op_pow (pv 4) pe_int) pa_nil)) (pv 3))))))))
      (pss_one (ps_ret (pv 2)))))), ?_⟩
    obtain ⟨⟨r, t, ed, h1, h2⟩, ⟨ws, ew, lw⟩, ⟨cs, ec, lc⟩⟩ := id hD
    obtain ⟨ndw, ndc⟩ := hD.ne
    refine ⟨.ref d, rfl, d, .int t, rfl, get_t ed, t, 1, rfl, rfl, .int (t + 1), .int 0, rfl, ?_⟩
    refine ⟨.int (t + 1), rfl, .ref d, rfl, d, _, rfl, put_t ed, ?_⟩
    have k1 : Kp [d] H (upd H d (.dK (drawKV w c r (t + 1)))) := Kp.refl.set (List.mem_singleton.mpr rfl) fun u e => by rw [ed] at e; cases e; rfl
    have hD1 : Dr (upd H d (.dK (drawKV w c r (t + 1)))) d w c (N + 1) := ⟨⟨r, t + 1, upd_same, by omega, by omega⟩, ⟨ws, by rw [upd_ne (Ne.symm ndw)]; exact ew, lw⟩, ⟨cs, by rw [upd_ne (Ne.symm ndc)]; exact ec, lc⟩⟩
    refine ⟨small (by show 4 ≤ 1000; omega), fun l nl => ⟨l, rfl, ⟨_, sqL upd_same⟩, ?_⟩⟩
    have hD2 := hD1.kp0 (Kp.new (o := .lst [.int 2147483647, .int 2147483629, .int 2147483587, .int 2147483579]) nl)
    have k2 : Kp [d] H (upd (upd H d (.dK (drawKV w c r (t + 1)))) l (.lst [.int 2147483647, .int 2147483629, .int 2147483587, .int 2147483579])) := k1.trans (Kp.new nl)
    obtain ⟨HH, eHH⟩ : ∃ HH, HH = upd (upd H d (.dK (drawKV w c r (t + 1)))) l (.lst [.int 2147483647, .int 2147483629, .int 2147483587, .int 2147483579]) := ⟨_, rfl⟩
    have el : HH l = some (.lst [.int 2147483647, .int 2147483629, .int 2147483587, .int 2147483579]) := by rw [eHH, upd_same]
    rw [← eHH] at hD2 k2 ⊢
    have ed2 : HH d = some (.dK (drawKV w c r (t + 1))) := by
      rw [eHH, upd_ne (ne_of_none upd_same nl), upd_same]
    obtain ⟨_, _, ⟨cs', ec2, lc2⟩⟩ := id hD2
    refine for_list (K := K) (a := l) (xs := [.int 2147483647, .int 2147483629, .int 2147483587, .int 2147483579]) (fun i σ H' => H' = HH ∧ ∃ fo y3 y4 y5, σ = [some (.ref d), some (.int (t + 1)), some (.int fo), y3, y4, y5])
      ⟨rfl, _, _, _, _, rfl⟩ (fun i σ H' _ ⟨e, _⟩ => by rw [e]; exact sqL el) ?_ ?_
    · rintro i x σ H' hi ⟨rfl, fo, y3, y4, y5, rfl⟩
      obtain ⟨p, rfl, hp, hp2⟩ : ∃ p : Int, x = .int p ∧ 1000000 < p ∧ p < 2147483648 := by
        have hm := List.mem_of_getElem? hi
        simp only [List.mem_cons, List.not_mem_nil, or_false] at hm
        rcases hm with e | e | e | e <;> exact ⟨_, e, by decide, by decide⟩
      refine ⟨.int (t + 1), rfl, 48271, t + 1, rfl, rfl, .inl (by decide), .int p, rfl, p, 37, rfl, rfl, ⟨by decide, by decide⟩, _, _, rfl, rfl, ?_⟩
      refine ⟨.ref d, rfl, d, .ref c, rfl, get_c ed2, c, rfl, ⟨_, sqL ec2⟩, ?_⟩
      refine for_list (K := K) (a := c) (xs := cs'.map V.int) (fun j σ H'' => H'' = H' ∧ ∃ b y5, -1000000000000000 ≤ b ∧ b ≤ 1000000000000000 ∧ σ = [some (.ref d), some (.int (t + 1)), some (.int fo), some (.int p), some (.int b), y5])
        ⟨rfl, _, _, by omega, by omega, rfl⟩ (fun i σ H'' _ ⟨e, _⟩ => by rw [e]; exact sqL ec2) ?_ ?_
      · rintro j x σ H'' hj ⟨rfl, b, y5, _, _, rfl⟩
        obtain ⟨g, rfl⟩ : ∃ g : Int, x = .int g := by
          obtain ⟨g, _, e⟩ := List.mem_map.mp (List.mem_of_getElem? hj)
          exact ⟨g, e.symm⟩
        refine ⟨.int b, rfl, b, 69621, rfl, rfl, .inr (by decide), .int g, rfl, _, _, rfl, rfl, .int (t + 1), rfl, _, _, rfl, rfl, .inl ⟨_, rfl, .int p, rfl, _, p, rfl, rfl, by show (0 : Int) < p; omega, rfl, _, _, ?_, ?_, rfl⟩⟩
        · have := Int.emod_nonneg (b * 69621 + g + (t + 1)) (show p ≠ 0 by omega)
          omega
        · have := Int.emod_lt_of_pos (b * 69621 + g + (t + 1)) (show 0 < p by omega)
          omega
      · rintro σ H'' ⟨rfl, b, y5, hb1, hb2, rfl⟩
        refine ⟨.int fo, rfl, fo, 2147483647, rfl, rfl, .inr (by decide), .int b, rfl, b, 5, rfl, rfl, ⟨by decide, by decide, by omega⟩, .inl ⟨_, rfl, .int p, rfl, _, p, rfl, rfl, by show (0 : Int) < p; omega, _, _, rfl, rfl, rfl, _, _, _, _, rfl⟩⟩
    · rintro σ H' ⟨rfl, fo, y3, y4, y5, rfl⟩
      exact ⟨.int fo, rfl, q _ fo k2 hD2⟩
/-! ### _law_take -/
def spTake : Sp := fun vs H Q _ => ∃ d w c N many, vs = [.ref d, .int many] ∧ Dr H d w c N ∧ N ≤ 1000000000 ∧ 0 < many ∧ many < 1073741824 ∧ ∀ H' r, Kp [d, w] H H' → Dr H' d w c (N + 1) → 0 ≤ r → r < many → Q (.int r) H'
theorem eqv_nil (ws : List Int) : PyData.eqv (.list (ws.map PyData.int)) (.list []) = ws.isEmpty := by
  cases ws <;> rfl
theorem ok_take {f f1 : Addr} {fd fd1 : FuncData} {k : Nat} (F : Fun K "_law_take" "_law_take" s_l_take f fd) (T : Bi mg) (F1 : Fun K "_law_mixed" "_law_mixed" s_l_mixed f1 fd1) (b1 : Binds K fd1 ["draw"] []) (g1 : mg "_law_mixed" = some (.ref f1)) (G1 : FnOk P w K mg base CX0 (k + 1) f1 fd1 ["draw"] spMixed) :
    FnOk P w K mg base CX0 (k + 2) f fd ["draw", "many"] spTake := by
  refine F.ok sc_l_take (fun vs H Q E h => ?_) (fun cdv A outer s H vs Q E hr h => ?_)
  · obtain ⟨_, _, _, _, _, rfl, _⟩ := h
    rfl
  · obtain ⟨d, w, c, N, many, rfl, hD, hN, hm, hm2, q⟩ := h
    refine ⟨_, (pss_cons (ps_if (pt_cmpR op_eq (pe_dget (hu1 hr) (pv 0) pe_str (fun _ _ => rfl)) pe_int (nomark _)) (pss_one (ps_dput (hu1 hr) (pv 0) pe_str (pe_ifExp (pt_cmpR (op_neD hr.units) (pe_dget (hu1 hr) (pv 0) pe_str (fun _ _ => rfl)) (pe_lst pa_nil) (nomark _)) (pe_bm PySem.F.plainAttrs_list PySem.F.slot_list_pop PySem.F.type_list_pop mt_popAt (pe_dget (hu1 hr) (pv 0) pe_str (fun _ _ => rfl)) (pa_cons pe_int pa_nil)) (pe_call G1 hr (by rfl) g1 F1.kp b1 .nil pass0 (pa_cons (pv 0) pa_nil))) rfl)) pss_nil)
      (pss_cons (ps_set (i := 2) sc_l_take.nd rfl (.inl rfl) (pe_op op_mod (pe_callTy call_int1 (by rfl) T.m_int (by decide +kernel) (pa_cons (pe_dget (hu1 hr) (pv 0) pe_str (fun _ _ => rfl)) pa_nil)) (pv 1)))
      (pss_cons (ps_dput (hu1 hr) (pv 0) pe_str (pe_op op_fdiv (pe_dget (hu1 hr) (pv 0) pe_str (fun _ _ => rfl)) (pv 1)) rfl)
      (pss_one (ps_ret (pv 2)))))), ?_⟩
    -- behind the if
    have fin : ∀ (H1 : Hp), Kp [d, w] H H1 → Dr H1 d w c (N + 1) → tSeq (tAsg (tOp (rI (fun _ j => 0 < j) fun i j => .int (i % j)) (tCB (fun xs H Q => (∃ i, xs = [.int i] ∧ Q (.int i) H) ∨ ∃ k, xs = [.bl k] ∧ Q (.int (if k then 1 else 0)) H) (tCons (tDGet (tVar 0) (tC (.str "rest"))) tNil)) (tVar 1)) (gName 2))
        (tSeq (sDPut (tVar 0) (tC (.str "rest")) (tOp (rI CDiv fun i j => .int (i / j)) (tDGet (tVar 0) (tC (.str "rest"))) (tVar 1))) (tRet (tVar 2))) { nx := fun _ H' => Q .non H', rt := Q } [some (.ref d), some (.int many), none] H1 := by
      intro H1 k1 hD1
      obtain ⟨⟨r, t, ed, h1, h2⟩, hw, hc⟩ := id hD1
      refine ⟨.ref d, rfl, d, .int r, rfl, get_r ed, .inl ⟨r, rfl, .int many, rfl, r, many, rfl, rfl, hm, ?_⟩⟩
      refine ⟨.ref d, rfl, d, .int r, rfl, get_r ed, .int many, rfl, r, many, rfl, rfl, ⟨hm, hm2⟩, .ref d, rfl, d, _, rfl, put_r ed, ?_⟩
      obtain ⟨ndw, ndc⟩ := hD1.ne
      obtain ⟨ws, ew, lw⟩ := hw
      obtain ⟨cs, ec, lc⟩ := hc
      refine ⟨.int (r % many), rfl, q _ _ (k1.set (by simp) fun u e => by rw [ed] at e; cases e; rfl) ⟨⟨_, t, upd_same, h1, h2⟩, ⟨ws, by rw [upd_ne (Ne.symm ndw)]; exact ew, lw⟩, ⟨cs, by rw [upd_ne (Ne.symm ndc)]; exact ec, lc⟩⟩ (Int.emod_nonneg _ (by omega)) (Int.emod_lt_of_pos _ hm)⟩
    obtain ⟨⟨r, t, ed, h1, h2⟩, ⟨ws, ew, lw⟩, ⟨cs, ec, lc⟩⟩ := id hD
    obtain ⟨ndw, ndc⟩ := hD.ne
    refine ⟨.ref d, rfl, d, .int r, rfl, get_r ed, rfl, _, rfl, ite2 (fun _ => ?_) (fun _ => ?_)⟩
    · refine ⟨.ref d, rfl, d, .ref w, rfl, get_w ed, Nat.zero_le _, fun l nl => ⟨_, _, .lst (sqL (by rw [upd_ne (ne_of_none ew nl)]; exact ew)) (DaL.ints (S := []) ws).dp, .lst (sqL upd_same) .nil, shaped_ints ws, shaped_ints [], _, rfl, ?_⟩⟩
      rw [eqv_nil]
      have ed1 : (upd H l (.lst [])) d = some (.dK (drawKV w c r t)) := by rw [upd_ne (ne_of_none ed nl)]; exact ed
      have ew1 : (upd H l (.lst [])) w = some (.lst (ws.map V.int)) := by rw [upd_ne (ne_of_none ew nl)]; exact ew
      have k1 : Kp [d, w] H (upd H l (.lst [])) := Kp.new nl
      have hD1 := hD.kp0 (Kp.new (o := .lst []) nl)
      cases ws with
      | nil =>
        refine ite2 (fun y => Bool.noConfusion y) fun _ => ?_
        refine ⟨.ref d, rfl, d, w, c, N, rfl, hD1, hN, fun H2 i k2 hD2 => ?_⟩
        obtain ⟨⟨r2, t2, ed2, h12, h22⟩, ⟨ws2, ew2, lw2⟩, ⟨cs2, ec2, lc2⟩⟩ := id hD2
        refine ⟨.ref d, rfl, d, _, rfl, put_r ed2, ?_⟩
        refine fin _ ((k1.trans (k2.mono fun b hb => by rw [List.mem_singleton.mp hb]; simp)).set (by simp) fun u e => by rw [ed2] at e; cases e; rfl) ⟨⟨_, t2, upd_same, h12, h22⟩, ⟨ws2, by rw [upd_ne (Ne.symm ndw)]; exact ew2, lw2⟩, ⟨cs2, by rw [upd_ne (Ne.symm ndc)]; exact ec2, lc2⟩⟩
      | cons w0 wr =>
        refine ite2 (fun _ => ?_) fun y => absurd rfl y
        have sx : seqIndex? 0 ((w0 :: wr).map V.int).length = some 0 := by
          refine (ixN_seq (n := ((w0 :: wr).map V.int).length) (i := 0) (j := 0) ?_).1
          unfold ixN
          rw [if_pos (by decide), if_pos (by rw [List.length_map, List.length_cons]; omega)] <;> rfl
        refine ⟨.ref d, rfl, d, .ref w, rfl, get_w ed1, .inl ⟨rfl, _, sqL ew1⟩, w, _, 0, 0, .int w0, rfl, rfl, ew1, by decide, by decide, sx, rfl, ?_⟩
        have lwr : wr.length ≤ 1000 := by
          rw [List.length_cons] at lw
          omega
        have ed2 : (upd (upd H l (.lst [])) w (.lst (((w0 :: wr).map V.int).eraseIdx 0))) d = some (.dK (drawKV w c r t)) := by rw [upd_ne ndw]; exact ed1
        refine ⟨.ref d, rfl, d, _, rfl, put_r ed2, ?_⟩
        refine fin _ ((k1.set (by simp) fun u e => by rw [ew1] at e; cases e; rfl).set (by simp) fun u e => by rw [ed2] at e; cases e; rfl) ⟨⟨_, t, upd_same, h1, by omega⟩, ⟨wr, by rw [upd_ne (Ne.symm ndw), upd_same] <;> rfl, lwr⟩, ?_⟩
        by_cases hwc : c = w
        · subst hwc
          exact ⟨wr, by rw [upd_ne (Ne.symm ndw), upd_same] <;> rfl, lwr⟩
        · exact ⟨cs, by rw [upd_ne (Ne.symm ndc), upd_ne hwc, upd_ne (ne_of_none ec nl)]; exact ec, lc⟩
    · exact fin H .refl (hD.mono (Nat.le_succ N))
/-! ### _law_pick -/
def spPick (K : PySem.W.Frag) : Sp := fun vs H Q _ => ∃ d w c N l xs, vs = [.ref d, .ref l] ∧ Dr H d w c N ∧ N ≤ 1000000000 ∧ H l = some (.lst xs) ∧ l ∉ [d, w] ∧ xs ≠ [] ∧ xs.length ≤ 1000 ∧ ∀ H' x, Kp [d, w] H H' → Dr H' d w c (N + 1) → x ∈ xs → Q x H'
theorem ok_pick {f f1 : Addr} {fd fd1 : FuncData} {k : Nat} (F : Fun K "_law_pick" "_law_pick" s_l_pick f fd) (T : Bi mg) (F1 : Fun K "_law_take" "_law_take" s_l_take f1 fd1) (b1 : Binds K fd1 ["draw", "many"] []) (g1 : mg "_law_take" = some (.ref f1)) (G1 : FnOk P w K mg base CX0 (k + 2) f1 fd1 ["draw", "many"] spTake) :
    FnOk P w K mg base CX0 (k + 3) f fd ["draw", "some"] (spPick K) := by
  refine F.ok sc_l_pick (fun vs H Q E h => ?_) (fun cdv A outer s H vs Q E hr h => ?_)
  · obtain ⟨_, _, _, _, _, _, rfl, _⟩ := h
    rfl
  · obtain ⟨d, w, c, N, l, xs, rfl, hD, hN, hl, hn, hne, hlen, q⟩ := h
    refine ⟨_, (pss_one (ps_ret (pe_ix ix_seq (pv 1) (pe_call G1 hr (by rfl) g1 F1.kp b1 .nil pass0 (pa_cons (pv 0) (pa_cons (pe_callB call_len (by rfl) T.m_len (by decide +kernel) (pa_cons (pv 1) pa_nil)) pa_nil))) (fun _ _ => rfl)))), ?_⟩
    have hpos : 0 < xs.length := List.length_pos_iff.mpr hne
    refine ⟨.ref l, rfl, .ref d, rfl, .ref l, rfl, .ref l, xs.length, rfl, .inl ⟨xs, sqL hl, rfl⟩, d, w, c, N, xs.length, rfl, hD, hN, by omega, by omega, fun H' r k1 hD1 h0 h1 => ?_⟩
    have hr1 : r.toNat < xs.length := by omega
    have er : ((r.toNat : Nat) : Int) = r := Int.toNat_of_nonneg h0
    have := ixE (K := K) (H := H') (a := l) (xs := xs) (n := r.toNat) (Q := Q) (.inl (sqL (k1 l _ hl (.inr hn)))) (List.getElem?_eq_getElem hr1) (q H' _ k1 hD1 (List.getElem_mem hr1))
    rw [er] at this
    exact this
end
end K18
set_option Elab.async false
set_option linter.all false
set_option maxRecDepth 100000
set_option maxHeartbeats 400000
namespace K18
open PySem PySem.Spec PyProof.Rows L2 Kb
theorem lc_by {J : It} {n : Nat} {g : TG} {tt : TT} {te : TE} {vs : List Nat} {σ : L2.St} {H0 : Hp} {D : Addr} {Q : Hp → Prop} (Pv : Nat → Hp → Prop) (h0 : Pv 0 H0)
    (hs : ∀ i H, i < n → Pv i H → J.go i H ∧ ∀ x H', J.yld i H x H' → g x (wipe σ vs) H' fun σ2 H2 => wipe σ2 vs = wipe σ vs ∧ tt σ2 H2 fun b H3 =>
      if b = true then te σ2 H3 fun y H4 => ∃ acc, H4 D = some (.lst acc) ∧ acc.length < sizeLine ∧ Pv (i + 1) (upd H4 D (.lst (acc ++ [y]))) else Pv (i + 1) H3)
    (hd : ∀ H, Pv n H → J.stop n H ∧ Q H) :
    ∃ W : Nat → Nat → Hp → Prop, (∃ m, W 0 m H0) ∧ ∀ i m H, W i m H →
      (J.stop i H ∧ Q H) ∨ (J.go i H ∧ ∃ Nx : Hp → Prop, (∀ H', Nx H' → ∃ m', m' < m ∧ W (i + 1) m' H') ∧ ∀ x H', J.yld i H x H' → g x (wipe σ vs) H' fun σ2 H2 => wipe σ2 vs = wipe σ vs ∧ tt σ2 H2 fun b H3 =>
        if b = true then te σ2 H3 fun y H4 => ∃ acc, H4 D = some (.lst acc) ∧ acc.length < sizeLine ∧ Nx (upd H4 D (.lst (acc ++ [y]))) else Nx H3) := by
  refine ⟨fun i m H => m = n - i ∧ i ≤ n ∧ Pv i H, ⟨n, by simp, Nat.zero_le _, h0⟩, ?_⟩
  rintro i m H ⟨rfl, hi, p⟩
  by_cases hlt : i < n
  · obtain ⟨h1, h2⟩ := hs i H hlt p
    exact .inr ⟨h1, Pv (i + 1), fun H' p' => ⟨n - (i + 1), by omega, rfl, hlt, p'⟩, h2⟩
  · have e : i = n := by omega
    subst e
    exact .inl (hd H p)
/-! #### tables written in a def -/
def tEn (e : En) : TE := tTup (tCons (tC (.int e.1)) (tCons (tC (.str e.2.1)) (tCons (tC (.str e.2.2)) tNil)))
def tEns : List En → TA
  | [] => tNil
  | e :: r => tCons (tEn e) (tEns r)
def EnAt (H : Hp) (v : V) (e : En) : Prop := ∃ T, v = .ref T ∧ H T = some (.tup [.int e.1, .str e.2.1, .str e.2.2])
theorem enAt_kp {S : List Addr} {H H' : Hp} (k : Kp S H H') : ∀ {vs : List V} {l : List En}, Paired (EnAt H) vs l → Paired (EnAt H') vs l
  | _, _, .nil => .nil
  | _, _, .cons ⟨T, e, h⟩ r => .cons ⟨T, e, k.tup h⟩ (enAt_kp k r)
theorem tEns_ok : ∀ (l : List En) (σ : L2.St) (H : Hp) (Q : List V → Hp → Prop), (∀ vs H', Kp [] H H' → Paired (EnAt H') vs l → Q vs H') → tEns l σ H Q
  | [], σ, H, Q, h => h [] H .refl .nil
  | e :: r, σ, H, Q, h => by
    refine ⟨small (by show 3 ≤ 1000; omega), fun p np => ?_⟩
    exact tEns_ok r σ _ _ fun vs H' k hp => h _ H' ((Kp.new np).trans k) (.cons ⟨p, rfl, k.tup upd_same⟩ hp)
theorem lstEns_ok (l : List En) (σ : L2.St) (H : Hp) (Q : VK) (hl : l.length ≤ 1000) (h : ∀ p vs H', Kp [] H H' → H p = none → H' p = some (.lst vs) → Paired (EnAt H') vs l → Q (.ref p) H') : tLst (tEns l) σ H Q := by
  refine tEns_ok l σ H _ fun vs H' k hp => ⟨small (by rw [paired_len hp]; exact hl), fun p np => ?_⟩
  exact h p vs _ (k.put2 np) (k.none List.not_mem_nil np) upd_same (enAt_kp (Kp.new (S := []) np) hp)
theorem paired_app {α β : Type} {F : α → β → Prop} : ∀ {l l' : List α} {m m' : List β}, Paired F l m → Paired F l' m' → Paired F (l ++ l') (m ++ m')
  | _, _, _, _, .nil, h => h
  | _, _, _, _, .cons a r, h => .cons a (paired_app r h)
def law1 : List En := [(1, "set", "rc"), (2, "copy", "rr"), (3, "plus", "rr"), (4, "less", "rr"), (5, "ask", "r"), (6, "show", "r"), (7, "load", "rD"), (8, "store", "rD")]
def law2 : List En := [(9, "item", "rrLD"), (10, "fill", "rrLD"), (11, "take", "pD"), (12, "pick", "prLD"), (13, "alike", "rpp"), (14, "call", "d"), (15, "call", "D")]
def law3 : List En := [(16, "jump", "d"), (17, "jump", "D"), (18, "if", "rd"), (19, "if", "rD"), (20, "leap", "p"), (21, "return", ""), (22, "stop", ""), (23, "fail", "f")]
def law4 : List En := [(27, "by load", "rcD"), (28, "by store", "rcD"), (29, "by item", "rrLD"), (30, "by fill", "rrLD"), (31, "by take", "pD"), (32, "by pick", "prLD")]
def law5 : List En := [(35, "by call", "D"), (37, "by jump", "D")]
theorem law_split : ((((law1 ++ law2) ++ law3) ++ law4) ++ law5) = lawL := rfl
theorem pa3 {X : Cx} {es : List Expr} {r : List En} {i : Int} {y z : Str} {j1 j2 j3 kk} {p1 p2 p3 pos : Pos} (h : PA X es (tEns r)) :
    PA X (.Tuple [.Constant (.int i) j1 p1, .Constant (.str y) j2 p2, .Constant (.str z) j3 p3] kk pos :: es) (tEns ((i, y, z) :: r)) :=
  pa_cons (pe_tup (pa_cons pe_int (pa_cons pe_str (pa_cons pe_str pa_nil)))) h
theorem pa0 {X : Cx} : PA X [] (tEns []) := pa_nil
section
variable {P : Program} {w : World} {K : PySem.W.Frag} {mg : Str → Option Value} {base : Heap}
/-! ### _law_codes -/
def spCodes : Sp := fun vs H Q _ => vs = [] ∧ ∀ p es H', Kp [] H H' → H p = none → H' p = some (.lst es) → Paired (EnAt H') es lawL → Q (.ref p) H'
theorem catL {H : Hp} {p1 p2 : Addr} {v1 v2 : List V} {Q : VK} (e1 : H p1 = some (.lst v1)) (e2 : H p2 = some (.lst v2)) (hl : v1.length + v2.length ≤ 1000) (q : ∀ p, H p = none → Q (.ref p) (upd H p (.lst (v1 ++ v2)))) : rCat (.ref p1) (.ref p2) H Q :=
  ⟨p1, p2, v1, v2, rfl, rfl, e1, e2, small hl, q⟩
end
end K18
set_option Elab.async false
set_option linter.all false
set_option maxRecDepth 100000
set_option maxHeartbeats 1000000
namespace K18
open PySem PySem.Spec PyProof.Rows L2 Kb
def spL : List (Str × Int × Int) := [("r", 0, 4), ("p", 0, 2), ("c", 0, 64), ("f", 0, 63), ("L", 1, 65), ("d", -32, 32), ("D", -2048, 2048)]
def spn (z : Str) : Option (Int × Int) := (spL.find? fun q => decide (q.1 = z)).map (·.2)
/-- the law's spans of its own letters are the program's limits -/
def spnOk (z : Str) : Bool := match spn z, lim z with
  | some (a, b), some (c, d) => decide (a = c) && decide (b = d + 1)
  | _, _ => false
theorem spans_ok : ∀ e ∈ lawL, (lets e.2.2).all spnOk = true := by decide +kernel
theorem pairTup {z : Str} {tl th : TE} {lo hi : Int} {r : List (TE × TE)} {σ : L2.St} {H : Hp} {Q : List (V × V) → Hp → Prop} (hl : ∀ σ H Q, Q (.int lo) H → tl σ H Q) (hh : ∀ σ H Q, Q (.int hi) H → th σ H Q)
    (h : ∀ t H', Kp [] H H' → H' t = some (.tup [.int lo, .int hi]) → tPairs r σ H' fun ps H3 => Q ((.str z, .ref t) :: ps) H3) : tPairs ((tC (.str z), tTup (tCons tl (tCons th tNil))) :: r) σ H Q := by
  unfold tPairs
  show tTup (tCons tl (tCons th tNil)) σ H (fun y H2 => tPairs r σ H2 fun ps H3 => Q ((.str z, y) :: ps) H3)
  refine hl _ _ _ (hh _ _ _ ?_)
  exact ⟨small (by show 2 ≤ 1000; omega), fun p np => h p _ (Kp.new np) upd_same⟩
section
variable {P : Program} {w : World} {K : PySem.W.Frag} {mg : Str → Option Value} {base : Heap}
/-! ### _law_span -/
def spSpan : Sp := fun vs H Q _ => ∃ z lo hi, vs = [.str z] ∧ spn z = some (lo, hi) ∧ ∀ H' t, Kp [] H H' → H' t = some (.tup [.int lo, .int hi]) → Q (.ref t) H'
/-! ### _law_many -/
def spMany : Sp := fun vs H Q _ => ∃ z : Str, vs = [.str z] ∧ z.length ≤ 1000 ∧ ∀ H', Kp [] H H' → Q (.int (1 + z.length + ((lets z).filter isD).length)) H'
theorem filter_take_succ {α : Type} {p : α → Bool} {l : List α} {i : Nat} {x : α} (e : l[i]? = some x) : (l.take (i + 1)).filter p = (l.take i).filter p ++ if p x then [x] else [] := by
  rw [List.take_add_one, e, List.filter_append]
  congr 1
  simp [List.filter_cons]
end
end K18
set_option Elab.async false
set_option linter.all false
set_option maxRecDepth 100000
set_option maxHeartbeats 1000000
namespace K18
open PySem PySem.Spec PyProof.Rows L2 Kb LamX
section
variable {X : Cx}
theorem takes_len {W : WX} (tk : Takes X W) : Takes X (fun cls d σ H => σ.length = X.N.length → W cls d σ H) := fun u s' ⟨a, B, sI, pins, σ, H, cls, d, e, I, nb, up, sky, na, os, ag, w⟩ =>
  tk u s' ⟨a, B, sI, pins, σ, H, cls, d, e, I, nb, up, sky, na, os, ag, w I.len⟩
theorem set3 (σ : L2.St) (h : σ.length = 3) (x y z : Option V) : ((σ.set 2 x).set 1 y).set 2 z = [σ.getD 0 none, y, z] ∧ (σ.set 2 x)[2]? = some x := by
  match σ, h with
  | [a, b, c], _ => exact ⟨rfl, rfl⟩
theorem caught_gives {q : Str} {g CL : Addr} {cdg : Value} (hme : X.mg "LinkError" = some (.ref CL)) :
    GivesTo X ["act", "found", "raised"] "_law_caught" (defScope s_l_caught) g cdg (defBody s_l_caught) "act" q (TCaught X.K CL) := by
  intro f c' s H Q tl act hc h
  refine ⟨_, pss_cons (ps_try_keep (X := (cxOf C8.CX0 X.prog X.w X.K X.mg X.base ["act", "found", "raised"] "_law_caught" (defScope s_l_caught) g cdg X.A X.stack s H C8.E0).nox) (i := 2) (n := "raised") (c := .ref CL)
      (tb := fun W D σ H => ∃ Ech : XK, (∀ cls d σ' H', Ech cls d H' → σ'.length = 3 → W cls d σ' H') ∧ σ[0]? = some (some (.ref f)) ∧ H c' = some (CodeO c' q) ∧ tl Ech H (fun v H' => D.nx (σ.set 1 (some v)) H'))
      (ts := fun a cls d => tAsg (tVar 2) (gName 1)) (Wout := fun _ _ _ _ => False)
      rfl rfl rfl sc_l_caught.nd rfl rfl ⟨rfl, by decide, .inl hme⟩ LamX.takes0 (fun W pn xe tk _ => ?_) (fun a oe cls d pn _ _ => pss_one (ps_set (i := 1) sc_l_caught.nd rfl (.inl rfl) (pv 2)))) (pss_one (ps_ret (pv 1))), ?_⟩
  · have key : ∀ p1 p2 p3 p4 : Pos, PSs ((cxOf C8.CX0 X.prog X.w X.K X.mg X.base ["act", "found", "raised"] "_law_caught" (defScope s_l_caught) g cdg X.A X.stack s H C8.E0).tr pn xe) [.Assign [.Name "found" p3] (.Call (.Name "act" p1) [] [] p2) p4]
        (fun D σ H => ∃ Ech : XK, (∀ cls d σ' H', Ech cls d H' → σ'.length = 3 → W cls d σ' H') ∧ σ[0]? = some (some (.ref f)) ∧ H c' = some (CodeO c' q) ∧ tl Ech H (fun v H' => D.nx (σ.set 1 (some v)) H')) := fun p1 p2 p3 p4 => by
      refine ⟨fun pins s' σ H' D I h' => ?_⟩
      obtain ⟨Ech, hW, h1, h2, h3⟩ := h'
      have hp := act (fun cls d σ H => σ.length = 3 → W cls d σ H) pn xe Ech p1 p2 (takes_len tk) (fun cls d σ' H' e hl => hW cls d σ' H' e hl)
      have hq := pss_one (ps_set (i := 1) (x := "found") (pos' := p3) (X := ((cxOf C8.CX0 X.prog X.w X.K X.mg X.base ["act", "found", "raised"] "_law_caught" (defScope s_l_caught) g cdg X.A X.stack s H C8.E0).tr pn xe)) (pos := p4) sc_l_caught.nd rfl (.inl rfl) hp)
      exact hq.run pins s' σ H' D I ⟨h1, h2, h3⟩
    exact key _ _ _ _
  · refine ⟨fun cls d H' => PySem.W.exmOne X.K cls (.ref CL) = some true ∧ ∀ a, H' a = none → Q (.ref a) (upd H' a (ExV cls d a)), fun cls d σ' H' ⟨e1, e2⟩ hl => ⟨true, e1, fun _ a na => ?_, fun z => Bool.noConfusion z⟩, rfl, hc, ?_⟩
    · obtain ⟨e3, e4⟩ := set3 σ' hl (some (.ref a)) (some (.ref a)) none
      refine ⟨.ref a, e4, ?_⟩
      refine ⟨.ref a, ?_, e2 a na⟩
      rw [e3]
      rfl
    · refine Eq.mpr (congrArg (tl _ H) (funext fun v => funext fun H' => propext ⟨fun ⟨x, e, q⟩ => by cases e; exact q, fun q => ⟨v, rfl, q⟩⟩)) h
end
end K18
set_option Elab.async false
set_option linter.all false
set_option maxRecDepth 100000
set_option maxHeartbeats 1000000
namespace K18
open PySem PySem.Spec PyProof.Rows L2 Kb
section
variable {P : Program} {w : World} {K : PySem.W.Frag} {mg : Str → Option Value} {base : Heap}
/-! ### _law_cells_of -/
def spCellsOf (K : PySem.W.Frag) : Sp := fun vs H Q _ => ∃ (c : Int) (z : Str) (a : Addr) (ps : List Int), vs = [.int c, .str z, .ref a] ∧ SqE K H a (ps.map V.int) ∧ z.length ≤ 100 ∧
  ∀ H' p, Kp [] H H' → H' p = some (.tup ((c :: encs ((ps.map PyData.int).zip (lets z))).map V.int)) → Q (.ref p) H'
end
end K18
set_option Elab.async false
set_option linter.all false
set_option maxRecDepth 100000
set_option maxHeartbeats 1000000
namespace K18
open PySem PySem.Spec PyProof.Rows L2 Kb
def PsOk (ps : List Int) (ls : List Str) : Prop := ps.length = ls.length ∧ partsOk (ps.map .int) ls = true
theorem PsOk.snoc {ps : List Int} {ls : List Str} {z : Str} {lo hi v : Int} (h : PsOk ps ls) (hz : lim z = some (lo, hi)) (h1 : lo ≤ v) (h2 : v ≤ hi) : PsOk (ps ++ [v]) (ls ++ [z]) := by
  obtain ⟨e, p⟩ := h
  refine ⟨by rw [List.length_append, List.length_append, e] <;> rfl, ?_⟩
  unfold partsOk at p ⊢
  rw [List.map_append, List.zip_append (by rw [List.length_map, e]), List.all_append, p]
  show (true && (partOk (.int v, z) && true)) = true
  have : partOk (.int v, z) = true := by
    unfold partOk
    rw [hz]
    show (decide (lo ≤ v) && decide (v ≤ hi)) = true
    rw [decide_eq_true h1, decide_eq_true h2] <;> rfl
  rw [this] <;> rfl
theorem spn_of {e : En} (he : e ∈ lawL) {z : Str} (hz : z ∈ lets e.2.2) : ∃ lo hi, spn z = some (lo, hi + 1) ∧ lim z = some (lo, hi) ∧ lo ≤ hi ∧ hi - lo < 5000 ∧ -5000 ≤ lo ∧ hi ≤ 5000 := by
  have h := List.all_eq_true.mp (spans_ok e he) z hz
  unfold spnOk at h
  cases e1 : spn z with
  | none => rw [e1] at h; cases h
  | some p =>
    cases e2 : lim z with
    | none => rw [e1, e2] at h; cases h
    | some q =>
      obtain ⟨a, b⟩ := p
      obtain ⟨c, d⟩ := q
      rw [e1, e2] at h
      obtain ⟨h1, h2⟩ := Bool.and_eq_true_iff.mp h
      have h1 := of_decide_eq_true h1
      have h2 := of_decide_eq_true h2
      subst h1 h2
      obtain ⟨r, hr1, hr2⟩ := Option.map_eq_some_iff.mp e2
      have key : ∀ r ∈ limL, r.2.1 ≤ r.2.2 ∧ r.2.2 - r.2.1 < 5000 ∧ -5000 ≤ r.2.1 ∧ r.2.2 ≤ 5000 := by decide
      have := key r (List.mem_of_find?_eq_some hr1)
      rw [hr2] at this
      exact ⟨a, d, rfl, rfl, this.1, this.2.1, this.2.2.1, this.2.2.2⟩
section
variable {P : Program} {w : World} {K : PySem.W.Frag} {mg : Str → Option Value} {base : Heap}
theorem Dr.there {H : Hp} {d w c : Addr} {N : Nat} (D : Dr H d w c N) {p : Addr} (np : H p = none) : p ∉ [d, w] := fun hm => by
  obtain ⟨⟨r, t, e, h1, h2⟩, ⟨ws, ew, lw⟩, ⟨cs, ec, lc⟩⟩ := D
  simp only [List.mem_cons, List.not_mem_nil, or_false] at hm
  rcases hm with h | h
  · rw [h, e] at np; cases np
  · rw [h, ew] at np; cases np
/-! ### _law_made -/
def MadeAt (H : Hp) (p : Addr) (e : En) (ps : List Int) : Prop := ∃ T1 T2, H p = some (.tup [.ref T1, .ref T2]) ∧ H T1 = some (.tup (.str e.2.1 :: ps.map V.int)) ∧ H T2 = some (.tup ((e.1 :: encs ((ps.map PyData.int).zip (lets e.2.2))).map V.int))
def spMade : Sp := fun vs H Q _ => ∃ d w c N, vs = [.ref d] ∧ Dr H d w c N ∧ N ≤ 100000000 ∧ ∀ H' p e ps, Kp [d, w] H H' → Dr H' d w c (N + 20) → e ∈ lawL → PsOk ps (lets e.2.2) → MadeAt H' p e ps → Q (.ref p) H'
end
end K18
set_option Elab.async false
set_option linter.all false
set_option maxRecDepth 100000
set_option maxHeartbeats 1000000
namespace K18
open PySem PySem.Spec PyProof.Rows L2 Kb
theorem decs_alike (ns : List Int) : ∀ (l l' : List Str) (j : Nat), l.map isD = l'.map isD → l.map (fun z => decide (z = ("d" : Str))) = l'.map (fun z => decide (z = ("d" : Str))) → l.map (fun z => decide (z = ("L" : Str))) = l'.map (fun z => decide (z = ("L" : Str))) → decs ns j l = decs ns j l'
  | [], [], _, _, _, _ => rfl
  | [], _ :: _, _, h, _, _ => by cases h
  | _ :: _, [], _, h, _, _ => by cases h
  | z :: r, z' :: r', j, h1, h2, h3 => by
    rw [List.map_cons, List.map_cons, List.cons.injEq] at h1 h2 h3
    have ih := decs_alike ns r r' (j + wd z) h1.2 h2.2 h3.2
    have e1 : (z = ("D" : Str)) = (z' = ("D" : Str)) := propext (decide_eq_decide.mp h1.1)
    have e2 : (z = ("d" : Str)) = (z' = ("d" : Str)) := propext (decide_eq_decide.mp h2.1)
    have e3 : (z = ("L" : Str)) = (z' = ("L" : Str)) := propext (decide_eq_decide.mp h3.1)
    have ew : wd z = wd z' := by
      unfold wd
      rw [h1.1]
    show decP z _ _ :: decs ns (j + wd z) r = decP z' _ _ :: decs ns (j + wd z') r'
    rw [ih, ew]
    unfold decP
    simp only [e1, e2, e3]
theorem partsOk_alike : ∀ (ds : List PyData) (l l' : List Str), l.map lim = l'.map lim → partsOk ds l = partsOk ds l'
  | ds, [], [], _ => rfl
  | _, [], _ :: _, h => by cases h
  | _, _ :: _, [], h => by cases h
  | [], _ :: _, _ :: _, _ => rfl
  | d :: ds, z :: r, z' :: r', h => by
    rw [List.map_cons, List.map_cons, List.cons.injEq] at h
    have ih := partsOk_alike ds r r' h.2
    show (partOk (d, z) && partsOk ds r) = (partOk (d, z') && partsOk ds r')
    have : partOk (d, z) = partOk (d, z') := by
      unfold partOk
      rw [h.1]
    rw [ih, this]
/-- entry i of both tables -/
theorem alike_at {i : Nat} {e' : En} (h : lawL[i]? = some e') : ∃ e, formL[i]? = some e ∧ e.1 = e'.1 ∧ e.2.1 = e'.2.1 ∧ (lets e.2.2).map lim = (lets e'.2.2).map lim ∧ (lets e.2.2).map isD = (lets e'.2.2).map isD ∧ size e.2.2 = size e'.2.2 ∧
    (∀ ns j, decs ns j (lets e.2.2) = decs ns j (lets e'.2.2)) ∧ (∀ ds, partsOk ds (lets e.2.2) = partsOk ds (lets e'.2.2)) ∧ e.2.2.length = e'.2.2.length := by
  have hi : i < lawL.length := (List.getElem?_eq_some_iff.mp h).1
  have hi2 : i < formL.length := by rw [tables_alike.2.1]; rw [tables_alike.2.2] at hi; exact hi
  obtain ⟨e, he⟩ : ∃ e, formL[i]? = some e := ⟨_, List.getElem?_eq_getElem hi2⟩
  have hz : (formL.zip lawL)[i]? = some (e, e') := by
    rw [List.getElem?_zip_eq_some]
    exact ⟨he, h⟩
  have ha := List.all_eq_true.mp tables_alike.1 _ (List.mem_of_getElem? hz)
  unfold alikeEn at ha
  simp only [Bool.and_eq_true, decide_eq_true_eq] at ha
  obtain ⟨⟨⟨⟨⟨⟨h1, h2⟩, h3⟩, h4⟩, h5⟩, h6⟩, h7⟩ := ha
  refine ⟨e, he, h1, h2, h3, h4, h5, fun ns j => decs_alike ns _ _ j h4 h6 h7, fun ds => partsOk_alike ds _ _ h3, ?_⟩
  have := congrArg List.length h4
  rw [List.length_map, List.length_map, lets_len, lets_len] at this
  exact this
section
variable {P : Program} {w : World} {K : PySem.W.Frag} {mg : Str → Option Value} {base : Heap}
def missB (ns : List Int) (n : Nat) (e : En) : Bool := decide (e.1 = ns.getD n 0) && decide ((n : Int) + size e.2.2 ≤ ns.length)
theorem sense_none {ns : List Int} {n : Nat} (h : formL.all (fun e => !missB ns n e) = true) : senseOf ns n = none := by
  unfold senseOf
  cases e1 : formL.find? (fun e => decide (e.1 = ns.getD n 0)) with
  | none => rfl
  | some e =>
    dsimp only
    have hm := List.mem_of_find?_eq_some e1
    have h2 := List.all_eq_true.mp h e hm
    have h3 : decide (e.1 = ns.getD n 0) = true := List.find?_some (p := fun e : En => decide (e.1 = ns.getD n 0)) e1
    unfold missB at h2
    rw [h3] at h2
    have h4 : ¬ ((n : Int) + size e.2.2 ≤ ns.length) := by simpa using h2
    rw [if_pos (by omega)]
theorem sense_some {ns : List Int} {n : Nat} {e : En} (hm : e ∈ formL) (h1 : e.1 = ns.getD n 0) (h2 : (n : Int) + size e.2.2 ≤ ns.length) :
    senseOf ns n = if partsOk ((decs ns (n + 1) (lets e.2.2)).map .int) (lets e.2.2) then some (e.2.1, decs ns (n + 1) (lets e.2.2), size e.2.2) else none := by
  unfold senseOf
  have := find_code codes_nd hm
  rw [h1] at this
  rw [this]
  dsimp only
  rw [if_neg (by omega)]
theorem partsOk_snoc {ns : List Int} {ls : List Str} {v : Int} {z : Str} (hl : ns.length = ls.length) : partsOk ((ns ++ [v]).map .int) (ls ++ [z]) = (partsOk (ns.map .int) ls && partOk (.int v, z)) := by
  unfold partsOk
  rw [List.map_append, List.zip_append (by rw [List.length_map, hl]), List.all_append]
  show (_ && (partOk (.int v, z) && true)) = _
  rw [Bool.and_true]
theorem partsOk_prefix {ds es : List PyData} {ls ms : List Str} (hl : ds.length = ls.length) (h : partsOk ds ls = false) : partsOk (ds ++ es) (ls ++ ms) = false := by
  unfold partsOk at h ⊢
  rw [List.zip_append hl, List.all_append, h] <;> rfl
theorem decs_app (ns : List Int) : ∀ (l m : List Str) (j : Nat), decs ns j (l ++ m) = decs ns j l ++ decs ns (j + wds l) m
  | [], m, j => rfl
  | z :: r, m, j => by
    show decP z _ _ :: decs ns (j + wd z) (r ++ m) = decP z _ _ :: (decs ns (j + wd z) r ++ decs ns (j + wds (z :: r)) m)
    rw [decs_app ns r m (j + wd z)]
    have e : j + wd z + wds r = j + wds (z :: r) := by
      show j + wd z + wds r = j + (wd z + wds r)
      omega
    rw [e]
end
end K18
set_option Elab.async false
set_option linter.all false
set_option maxRecDepth 100000
set_option maxHeartbeats 1000000
namespace K18
open PySem PySem.Spec PyProof.Rows L2 Kb
section
variable {P : Program} {w : World} {K : PySem.W.Frag} {mg : Str → Option Value} {base : Heap}
theorem lenE {H : Hp} {a : Addr} {xs : List V} {n : Nat} (h : SqE K H a xs) (hl : xs.length = n) : LenV K (.ref a) H n := by
  rcases h with h | h
  · exact .inl ⟨_, h, hl.symm⟩
  · exact .inr ⟨_, h, hl.symm⟩
def tTailS (K : PySem.W.Frag) : TS := tSeq (tAsg (tCall spSpan [] E0 (tCons (tVar 7) tNil)) (gTup K 2 (gCons (gName 9) (gCons (gName 10) gNil))))
  (tSeq (tIfS (tNot (tTest (tChain (rI0 fun i j => .bl (decide (i ≤ j))) (rI0 fun i j => .bl (decide (i < j))) (tVar 9) (tVar 8) (tVar 10)))) (tRet (tC .non)) tNext)
    (tSeq (tDrop (tBM K "list" rAppend (tVar 5) (tCons (tVar 8) tNil))) (tAsg (tOp (rI0 fun i j => .int (i + j)) (tVar 6) (tC (.int 1))) (gName 6))))
theorem tail_ok {D : Ends} {z : Str} {lo hi v : Int} {pl2 : Int} {l : Addr} {xs : List V} {a0 a1 a2 a3 a4 y9 y10 : Option V} {H : Hp} (hsp : spn z = some (lo, hi + 1)) (el : H l = some (.lst xs)) (hl : xs.length < sizeLine)
    (bad : ¬ (lo ≤ v ∧ v ≤ hi) → ∀ H', Kp [] H H' → D.rt .non H')
    (good : lo ≤ v → v ≤ hi → ∀ H', Kp [] H H' → D.nx [a0, a1, a2, a3, a4, some (.ref l), some (.int (pl2 + 1)), some (.str z), some (.int v), some (.int lo), some (.int (hi + 1))] (upd H' l (.lst (xs ++ [.int v])))) :
    tTailS K D [a0, a1, a2, a3, a4, some (.ref l), some (.int pl2), some (.str z), some (.int v), y9, y10] H := by
  refine ⟨.str z, rfl, z, lo, hi + 1, rfl, hsp, fun H6 t k6 ht => ?_⟩
  refine ⟨t, [.int lo, .int (hi + 1)], rfl, sqT ht, rfl, _, _, rfl, _, _, rfl, rfl, ?_⟩
  refine ⟨.int lo, rfl, .int v, rfl, lo, v, rfl, rfl, _, rfl, ?_⟩
  by_cases h1 : lo ≤ v
  · rw [decide_eq_true h1]
    refine ite2 (fun _ => ?_) fun y => absurd rfl y
    refine ⟨.int (hi + 1), rfl, v, hi + 1, rfl, rfl, _, rfl, ?_⟩
    by_cases h2 : v < hi + 1
    · rw [decide_eq_true h2]
      refine ite2 (fun y => Bool.noConfusion y) fun _ => ?_
      have el6 := k6 l _ el (.inr List.not_mem_nil)
      refine ⟨.ref l, rfl, .inl ⟨rfl, _, sqL el6⟩, .int v, rfl, l, _, _, rfl, rfl, el6, hl, ?_⟩
      exact ⟨_, rfl, _, _, rfl, rfl, good h1 (by omega) H6 k6⟩
    · rw [decide_eq_false h2]
      refine ite2 (fun _ => ?_) fun y => absurd rfl y
      exact bad (fun y => h2 (by omega)) H6 k6
  · rw [decide_eq_false h1]
    refine ite2 (fun y => Bool.noConfusion y) fun _ => ⟨_, rfl, ?_⟩
    refine ite2 (fun _ => ?_) fun y => absurd rfl y
    exact bad (fun y => h1 y.1) H6 k6
end
end K18
set_option Elab.async false
set_option linter.all false
set_option maxRecDepth 100000
set_option maxHeartbeats 1000000
namespace K18
open PySem PySem.Spec PyProof.Rows L2 Kb
theorem shaped_head {d : PyData} {ds : List PyData} (h : SeqAt.shaped (.tuple (d :: ds)) = true) : SeqAt.shaped d = true := by
  unfold SeqAt.shaped at h ⊢
  obtain ⟨h1, h2⟩ := Bool.and_eq_true_iff.mp h
  have h2 := of_decide_eq_true h2
  have h3 : (PyData.canLay0 d && PyData.canLayAll0 ds) = true := h1
  rw [(Bool.and_eq_true_iff.mp h3).1]
  have h4 : max (PyData.depth d) (PyData.depthAll ds) + 1 ≤ 64 := h2
  have : PyData.depth d ≤ 64 := by omega
  show (true && decide _) = true
  rw [decide_eq_true this] <;> rfl
theorem eqv_str (d : PyData) (x : Str) : PyData.eqv d (.str x) = headIs [d] x := by
  cases d with
  | str y =>
    show (y == x) = decide (x = y)
    by_cases h : y = x
    · subst h
      rw [beq_self_eq_true, decide_eq_true rfl]
    · rw [decide_eq_false (fun z => h z.symm)]
      exact beq_false_of_ne h
  | _ => rfl
theorem headIs_cons (d : PyData) (ds : List PyData) (x : Str) : headIs (d :: ds) x = headIs [d] x := by
  cases d <;> rfl
theorem eqv_nilT (ds : List PyData) : PyData.eqv (.tuple ds) (.tuple []) = ds.isEmpty := by
  cases ds <;> rfl
theorem shaped_word (e : En) (h : e ∈ lawL) : SeqAt.shaped (.str e.2.1) = true := by
  have key : lawL.all (fun e => SeqAt.shaped (.str e.2.1)) = true := by decide +kernel
  exact List.all_eq_true.mp key e h
theorem encs_alike : ∀ (ds : List PyData) (l l' : List Str), l.map isD = l'.map isD → encs (ds.zip l) = encs (ds.zip l')
  | ds, [], [], _ => rfl
  | _, [], _ :: _, h => by cases h
  | _, _ :: _, [], h => by cases h
  | [], _ :: _, _ :: _, _ => rfl
  | d :: ds, z :: r, z' :: r', h => by
    rw [List.map_cons, List.map_cons, List.cons.injEq] at h
    have ih := encs_alike ds r r' h.2
    show encP z (intOf d) ++ encs (ds.zip r) = encP z' (intOf d) ++ encs (ds.zip r')
    have : encP z (intOf d) = encP z' (intOf d) := by
      unfold encP
      rw [h.1]
    rw [ih, this]
theorem parts_ints {S : List Addr} {H : Hp} : ∀ {xs : List V} {ds : List PyData} (ls : List Str), DaL S H xs ds → ds.length = ls.length → partsOk ds ls = true → ∃ ps : List Int, xs = ps.map V.int ∧ ds = ps.map PyData.int
  | _, _, _, .nil, _, _ => ⟨[], rfl, rfl⟩
  | _, _, [], .cons _ _, h, _ => by cases h
  | _, _, z :: r, .cons (d := d) h hr, hl, hp => by
    obtain ⟨h1, h2⟩ := Bool.and_eq_true_iff.mp (show (partOk (d, z) && partsOk _ r) = true from hp)
    unfold partOk at h1
    cases hz : lim z with
    | none => rw [hz] at h1; cases h1
    | some b =>
      rw [hz] at h1
      obtain ⟨i, rfl, _, _⟩ := inB_int h1
      cases h
      obtain ⟨ps, rfl, rfl⟩ := parts_ints r hr (Nat.succ.inj hl) h2
      exact ⟨i :: ps, rfl, rfl⟩
def duePy (d m : PyData) : PyData := match codeOf d m with
  | none => .none
  | some e => .tuple ((instrOf (dsOf d) e).map .int)
def SpAt (H : Hp) (v : V) (z : Str) : Prop := ∃ t lo hi, v = .ref t ∧ lim z = some (lo, hi) ∧ H t = some (.tup [.int lo, .int (hi + 1)])
theorem spAt_kp {S : List Addr} {H H' : Hp} (k : Kp S H H') : ∀ {vs : List V} {l : List Str}, Paired (SpAt H) vs l → Paired (SpAt H') vs l
  | _, _, .nil => .nil
  | _, _, .cons ⟨t, lo, hi, e, h, g⟩ r => .cons ⟨t, lo, hi, e, h, k.tup g⟩ (spAt_kp k r)
section
variable {P : Program} {w : World} {K : PySem.W.Frag} {mg : Str → Option Value} {base : Heap}
/-! ### _law_due -/
def spDue : Sp := fun vs H Q _ => ∃ S x d y m, vs = [x, y] ∧ Da S H x d ∧ Da S H y m ∧ SeqAt.shaped d = true ∧ (dsOf d).length ≤ 1000 ∧ ∀ x' H', Kp [] H H' → (∀ S', Da S' H' x' (duePy d m)) → Q x' H'
end
end K18
set_option Elab.async false
set_option linter.all false
set_option maxRecDepth 100000
set_option maxHeartbeats 1000000
namespace K18
open PySem PySem.Spec PyProof.Rows L2 Kb
theorem shaped_intsT (ns : List Int) : SeqAt.shaped (.tuple (ns.map PyData.int)) = true := shaped_ints ns
theorem kit_self {K : PySem.W.Frag} {C : Addr} : PySem.W.kitOne K (.ref C) (.ref C) = some true := by
  unfold PySem.W.kitOne
  rw [if_pos (by simp)]
theorem Kp.ofExtP {P2 : Addr} {H H' : Hp} {q : Str} (hT : LamX.TabS H P2 q) (h : Kb.ExtP P2 H H') : Kp [P2] H H' := fun b o e hq => by
  by_cases hb : b = P2
  · subst hb
    obtain ⟨ps, e2, _⟩ := hT
    rw [e] at e2
    cases e2
    rcases hq with z | z
    · cases z
    · exact absurd (List.mem_singleton.mpr rfl) z
  · exact h b o hb e
section
variable {P : Program} {w : World} {K : PySem.W.Frag} {mg : Str → Option Value} {base : Heap}
end
end K18
set_option Elab.async false
set_option linter.all false
set_option maxRecDepth 100000
set_option maxHeartbeats 1000000
namespace K18
open PySem PySem.Spec PyProof.Rows L2 Kb
section
variable {P : Program} {w : World} {K : PySem.W.Frag} {mg : Str → Option Value} {base : Heap}
/-! ### _law_begun -/
def spBegun (K : PySem.W.Frag) : Sp := fun vs H Q _ => ∃ (a : Addr) (ns : List Int), vs = [.ref a] ∧ SqL K H a (ns.map V.int) ∧ ns.length ≤ 63 ∧ ∀ H' d w c, Kp [] H H' → Dr H' d w c 0 → H w = none → Q (.ref d) H'
theorem ok_begun {f : Addr} {fd : FuncData} {k : Nat} (F : Fun K "_law_begun" "_law_begun" s_l_begun f fd) (T : Bi mg) : FnOk P w K mg base CX0 (k + 1) f fd ["script"] (spBegun K) := by
  refine F.ok sc_l_begun (fun vs H Q E h => ?_) (fun cdv A outer s H vs Q E hr h => ?_)
  · obtain ⟨_, _, rfl, _⟩ := h
    rfl
  · obtain ⟨a, ns, rfl, hS, hlen, q⟩ := h
    refine ⟨_, (pss_cons (ps_setLc (i := 1) (own := [("grain", 2)]) (g := gName 2) (by rfl) sc_l_begun.nd rfl rfl (sw_true rfl rfl rfl (by decide +kernel)) (pi_list (pv 0)) (blkOk_by (own := [("grain", 2)]) (N := ["script", "wide", "grain"]) (sc := defScope s_l_begun) (by decide +kernel)) (fun _ _ _ _ _ => pg_name (i := 2) sc_l_begun.nd rfl (.inl rfl))
          (fun _ _ _ _ _ => pts_one (pt_cmpR op_ge (pe_callB call_abs (by rfl) T.m_abs (by decide +kernel) (pa_cons (pv 2) pa_nil)) (pe_op op_pow pe_int pe_int) (nomark _))) (fun _ _ _ _ _ => pe_op op_sub (pe_callB call_abs (by rfl) T.m_abs (by decide +kernel) (pa_cons (pv 2) pa_nil)) (pe_op op_pow pe_int pe_int)))
      (pss_one (ps_ret (pe_disp (pps_cons pe_str (pv 1) (pps_cons pe_str (pe_lc (own := [("grain", 2)]) (g := gName 2) (by rfl) sc_l_begun.nd (pi_list (pv 0)) (blkOk_by (own := [("grain", 2)]) (N := ["script", "wide", "grain"]) (sc := defScope s_l_begun) (by decide +kernel)) (fun _ _ _ _ _ => pg_name (i := 2) sc_l_begun.nd rfl (.inl rfl)) (fun _ _ _ _ _ => pts_nil)
          (fun _ _ _ _ _ => pe_op op_mod (pe_callTy call_int1 (by rfl) T.m_int (by decide +kernel) (pa_cons (pe_callB call_abs (by rfl) T.m_abs (by decide +kernel) (pa_cons (pv 2) pa_nil)) pa_nil)) pe_int))
        (pps_cons pe_str pe_int (pps_cons pe_str pe_int pps_nil)))) (by rfl) (by rfl) (by simp) (by decide))))), ?_⟩
    have lenN : (ns.map V.int).length = ns.length := List.length_map _
    refine ⟨.ref a, rfl, a, rfl, ⟨_, hS⟩, fun l nl => ?_⟩
    refine lc_by (J := Itl K a) (vs := [2]) (D := l) (H0 := upd H l (.lst [])) (n := ns.length) (fun j H' => Kp [] H H' ∧ ∃ ks : List Int, H' l = some (.lst (ks.map V.int)) ∧ ks.length ≤ j) ⟨Kp.new nl, [], upd_same, Nat.zero_le _⟩ ?_ ?_
    · rintro j H1 hj ⟨k1, ks, el, hk⟩
      obtain ⟨g, hg⟩ : ∃ g, ns[j]? = some g := ⟨_, List.getElem?_eq_getElem hj⟩
      have gV : (ns.map V.int)[j]? = some (.int g) := by rw [List.getElem?_map, hg] <;> rfl
      refine ⟨⟨_, _, sqL_kp k1 hS, gV⟩, ?_⟩
      rintro v H2 ⟨rfl, fv⟩
      have ev : v = .int g := Option.some.inj ((fv _ (sqL_kp k1 hS)).symm.trans gV)
      subst ev
      refine ⟨rfl, .int g, rfl, g, rfl, ?_⟩
      refine ⟨10, 18, rfl, rfl, ⟨by decide, by decide, by decide⟩, _, _, rfl, rfl, _, rfl, ite2 (fun _ => ?_) (fun _ => ?_)⟩
      · refine ⟨.int g, rfl, g, rfl, 10, 18, rfl, rfl, ⟨by decide, by decide, by decide⟩, _, _, rfl, rfl, _, el, ?_, k1.put nl, ks ++ [(if g < 0 then -g else g) - 10 ^ (18 : Int).toNat], ?_, ?_⟩
        · rw [List.length_map]
          exact small1000 (by omega)
        · rw [upd_same, List.map_append] <;> rfl
        · rw [List.length_append]
          show ks.length + 1 ≤ j + 1
          omega
      · exact ⟨k1, ks, el, by omega⟩
    · rintro H1 ⟨k1, ks, el, hk⟩
      refine ⟨⟨_, sqL_kp k1 hS, by rw [lenN]; exact Nat.le_refl _⟩, ?_⟩
      unfold tRet tDisp
      intro p np
      have k2 : Kp [] H1 (upd H1 p (.dK [])) := Kp.new np
      have np0 : H p = none := k1.none List.not_mem_nil np
      have kH2 := k1.trans k2
      have ep : (upd H1 p (.dK [])) p = some (.dK []) := upd_same
      have el2 := k2 l _ el (.inr List.not_mem_nil)
      generalize (upd H1 p (.dK [])) = H2 at k2 kH2 ep el2 ⊢
      refine ⟨.ref l, rfl, .ref a, rfl, a, rfl, ⟨_, sqL_kp kH2 hS⟩, fun l3 nl3 => ?_⟩
      refine lc_by (J := Itl K a) (vs := [2]) (D := l3) (H0 := upd H2 l3 (.lst [])) (n := ns.length) (fun j H' => Kp [] H2 H' ∧ ∃ ks : List Int, H' l3 = some (.lst (ks.map V.int)) ∧ ks.length ≤ j) ⟨Kp.new nl3, [], upd_same, Nat.zero_le _⟩ ?_ ?_
      · rintro j H3 hj ⟨k3, ks3, el3, hk3⟩
        obtain ⟨g, hg⟩ : ∃ g, ns[j]? = some g := ⟨_, List.getElem?_eq_getElem hj⟩
        have gV : (ns.map V.int)[j]? = some (.int g) := by rw [List.getElem?_map, hg] <;> rfl
        refine ⟨⟨_, _, sqL_kp (kH2.trans k3) hS, gV⟩, ?_⟩
        rintro v H4 ⟨rfl, fv⟩
        have ev : v = .int g := Option.some.inj ((fv _ (sqL_kp (kH2.trans k3) hS)).symm.trans gV)
        subst ev
        refine ⟨rfl, ?_⟩
        unfold tYes
        refine (if_pos rfl).mpr ?_
        refine ⟨.int g, rfl, g, rfl, .inl ⟨_, rfl, _, _, rfl, rfl, (by show (0 : Int) < 2147483629; decide), _, el3, ?_, k3.put nl3, ks3 ++ [(if g < 0 then -g else g) % 2147483629], ?_, ?_⟩⟩
        · rw [List.length_map]
          exact small1000 (by omega)
        · rw [upd_same, List.map_append] <;> rfl
        · rw [List.length_append]
          show ks3.length + 1 ≤ j + 1
          omega
      · rintro H3 ⟨k3, ks3, el3, hk3⟩
        refine ⟨⟨_, sqL_kp (kH2.trans k3) hS, by rw [lenN]; exact Nat.le_refl _⟩, ?_⟩
        have ep3 := k3 p _ ep (.inr List.not_mem_nil)
        have ell := k3 l _ el2 (.inr List.not_mem_nil)
        have n1 : l ≠ p := fun e => by rw [e, ep3] at ell; cases ell
        have n2 : l3 ≠ p := fun e => by rw [e, ep3] at el3; cases el3
        refine ⟨ep3, drawKV l l3 0 0, rfl, by show 4 ≤ 15; omega, ?_⟩
        refine q _ p l l3 ((kH2.trans k3).put np0) ⟨⟨0, 0, upd_same, by omega, by omega⟩, ⟨ks, by rw [upd_ne n1]; exact ell, by omega⟩, ⟨ks3, by rw [upd_ne n2]; exact el3, by omega⟩⟩ nl
end
end K18
set_option Elab.async false
set_option linter.all false
set_option maxRecDepth 100000
set_option maxHeartbeats 1000000
namespace K18
open PySem PySem.Spec PyProof.Rows L2 Kb
/-- data of a bounded depth -/
def ok3 (n : Nat) (d : PyData) : Bool := d.canLay0 && decide (d.depth ≤ n) && decide ((dsOf d).length ≤ 50)
theorem ok3_of {n : Nat} {d : PyData} (h : ok3 n d = true) : d.canLay0 = true ∧ d.depth ≤ n ∧ (dsOf d).length ≤ 50 := by
  unfold ok3 at h
  simp only [Bool.and_eq_true, decide_eq_true_eq] at h
  exact ⟨h.1.1, h.1.2, h.2⟩
theorem ok3_mk {n : Nat} {d : PyData} (h1 : d.canLay0 = true) (h2 : d.depth ≤ n) (h3 : (dsOf d).length ≤ 50) : ok3 n d = true := by
  unfold ok3
  simp only [Bool.and_eq_true, decide_eq_true_eq]
  exact ⟨⟨h1, h2⟩, h3⟩
theorem ok3_shaped {n : Nat} {d : PyData} (h : ok3 n d = true) (hn : n ≤ 64) : SeqAt.shaped d = true := by
  obtain ⟨h1, h2, _⟩ := ok3_of h
  unfold SeqAt.shaped
  rw [h1, decide_eq_true (show d.depth ≤ 64 by omega)] <;> rfl
def Fr (H : Hp) (S : List Addr) : Prop := ∀ s ∈ S, H s ≠ none
theorem Fr.ni {H : Hp} {S : List Addr} (f : Fr H S) {p : Addr} (n : H p = none) : p ∉ S := fun hm => f p hm n
theorem Fr.kp {H H' : Hp} {S : List Addr} (f : Fr H S) (k : Kp [] H H') : Fr H' S := fun s hs e => by
  have h := f s hs
  cases q : H s with
  | none => exact h q
  | some o =>
    rw [k s o q (.inr List.not_mem_nil)] at e
    cases e
theorem DaL.mem {S : List Addr} {H : Hp} {x : V} : ∀ {xs : List V} {ds : List PyData}, DaL S H xs ds → x ∈ xs → ∃ d ∈ ds, Da S H x d
  | _, _, .cons h r, hm => by
    rcases List.mem_cons.mp hm with z | z
    · subst z
      exact ⟨_, List.mem_cons_self, h⟩
    · obtain ⟨d, h1, h2⟩ := DaL.mem r z
      exact ⟨d, List.mem_cons_of_mem _ h1, h2⟩
/-! #### displays of written things -/
inductive Am where
  | c (v : V)
  | n (i : Int)
def Am.t : Am → TE
  | .c v => tC v
  | .n i => tUn (rU fun i => .int (-i)) (tC (.int i))
def Am.v : Am → V
  | .c v => v
  | .n i => .int (-i)
def datV : V → PyData
  | .bl b => .bool b
  | .int i => .int i
  | .str x => .str x
  | _ => .none
def atomV : V → Bool
  | .non => true
  | .bl _ => true
  | .int _ => true
  | .str _ => true
  | _ => false
def Am.d (m : Am) : PyData := datV m.v
def Am.ok (m : Am) : Bool := atomV m.v
theorem Am.da {S : List Addr} {H : Hp} {m : Am} (h : m.ok = true) : Da S H m.v m.d := by
  unfold Am.ok at h
  unfold Am.d
  cases e : m.v <;> rw [e] at h
  case non => exact .non
  case bl b => exact .bl b
  case int i => exact .int i
  case str x => exact .str x
  all_goals cases h
theorem Am.t_ok (m : Am) {σ : L2.St} {H : Hp} {Q : VK} (h : Q m.v H) : m.t σ H Q := by
  cases m with
  | c v => exact h
  | n i => exact ⟨i, rfl, h⟩
def tAms : List Am → TA
  | [] => tNil
  | m :: r => tCons m.t (tAms r)
theorem tAms_ok : ∀ (l : List Am) {σ : L2.St} {H : Hp} {Q : List V → Hp → Prop}, Q (l.map Am.v) H → tAms l σ H Q
  | [], _, _, _, h => h
  | m :: r, _, _, _, h => m.t_ok (tAms_ok r h)
theorem ams_da {S : List Addr} {H : Hp} : ∀ {l : List Am}, l.all Am.ok = true → DaL S H (l.map Am.v) (l.map Am.d)
  | [], _ => .nil
  | m :: r, h => by
    obtain ⟨h1, h2⟩ := Bool.and_eq_true_iff.mp (show (m.ok && r.all Am.ok) = true from h)
    exact .cons (Am.da h1) (ams_da h2)
inductive Im where
  | a (m : Am)
  | tup (l : List Am)
  | lst (l : List Am)
def Im.t : Im → TE
  | .a m => m.t
  | .tup l => tTup (tAms l)
  | .lst l => tLst (tAms l)
def Im.d : Im → PyData
  | .a m => m.d
  | .tup l => .tuple (l.map Am.d)
  | .lst l => .list (l.map Am.d)
def Im.ok : Im → Bool
  | .a m => m.ok
  | .tup l => l.all Am.ok && decide (l.length ≤ 100)
  | .lst l => l.all Am.ok && decide (l.length ≤ 100)
def tIms : List Im → TA
  | [] => tNil
  | m :: r => tCons m.t (tIms r)
theorem tIms_ok {S : List Addr} : ∀ (l : List Im) {σ : L2.St} {H : Hp} {Q : List V → Hp → Prop}, l.all Im.ok = true → Fr H S → (∀ vs H', Kp [] H H' → DaL S H' vs (l.map Im.d) → Q vs H') → tIms l σ H Q
  | [], _, H, _, _, _, h => h [] H .refl .nil
  | .a m :: r, σ, H, Q, hok, hF, h => by
    obtain ⟨h1, h2⟩ := Bool.and_eq_true_iff.mp (show (Im.ok (.a m) && r.all Im.ok) = true from hok)
    exact m.t_ok (tIms_ok r h2 hF fun vs H' k hd => h _ H' k (.cons (Am.da h1) hd))
  | .tup l :: r, σ, H, Q, hok, hF, h => by
    obtain ⟨h1, h2⟩ := Bool.and_eq_true_iff.mp (show (Im.ok (.tup l) && r.all Im.ok) = true from hok)
    obtain ⟨h3, h4⟩ := Bool.and_eq_true_iff.mp (show (l.all Am.ok && decide (l.length ≤ 100)) = true from h1)
    have h4 := of_decide_eq_true h4
    refine tAms_ok l ⟨small (by rw [List.length_map]; omega), fun p np => ?_⟩
    exact tIms_ok r h2 (hF.kp (Kp.new np)) fun vs H' k hd => h _ H' ((Kp.new np).trans k) (.cons (.tup (k.tup upd_same) (ams_da h3)) hd)
  | .lst l :: r, σ, H, Q, hok, hF, h => by
    obtain ⟨h1, h2⟩ := Bool.and_eq_true_iff.mp (show (Im.ok (.lst l) && r.all Im.ok) = true from hok)
    obtain ⟨h3, h4⟩ := Bool.and_eq_true_iff.mp (show (l.all Am.ok && decide (l.length ≤ 100)) = true from h1)
    have h4 := of_decide_eq_true h4
    refine tAms_ok l ⟨small (by rw [List.length_map]; omega), fun p np => ?_⟩
    exact tIms_ok r h2 (hF.kp (Kp.new np)) fun vs H' k hd => h _ H' ((Kp.new np).trans k) (.cons (.lst (k _ _ upd_same (.inr List.not_mem_nil)) (hF.ni np) (ams_da h3)) hd)
theorem lstIms_ok {S : List Addr} (l : List Im) {σ : L2.St} {H : Hp} {Q : VK} (hok : l.all Im.ok = true) (hl : l.length ≤ 500) (hF : Fr H S) (h : ∀ p vs H', Kp [] H H' → H p = none → H' p = some (.lst vs) → DaL S H' vs (l.map Im.d) → Q (.ref p) H') : tLst (tIms l) σ H Q := by
  refine tIms_ok l hok hF fun vs H' k hd => ⟨small (by rw [hd.len, List.length_map]; omega), fun p np => ?_⟩
  exact h p vs _ (k.put2 np) (k.none List.not_mem_nil np) upd_same (hd.kp (Kp.new np))
def imA : List Im := [.a (.c .non), .a (.c (.bl true)), .a (.c (.bl false)), .a (.c (.int 0)), .a (.c (.int 1)), .a (.c (.int 2)), .a (.c (.int 5)), .a (.c (.int 13)), .a (.c (.int 20)), .a (.c (.int 21)), .a (.c (.int 39)), .a (.c (.int 40)), .a (.c (.int 62)), .a (.c (.int 63)), .a (.c (.int 64)), .a (.n 1), .a (.c (.str "")), .a (.c (.str "a")), .a (.c (.str "set")), .a (.c (.str "row")), .a (.c (.str "name")), .a (.c (.str "near")), .a (.c (.str "branch")), .a (.c (.str "goto")), .a (.c (.str "load")), .a (.c (.str "take"))]
def imB : List Im := [.a (.c (.str "own")), .a (.c (.str "open")), .a (.c (.str "weak")), .a (.c (.str "strong")), .a (.c (.str "code")), .a (.c (.str "data")), .a (.c (.str "object")), .tup [], .tup [.c (.int 0)], .tup [.c (.int 1), .c (.int 2)], .tup [.c (.str "row"), .c (.int 0)], .tup [.c (.str "name"), .c (.str "a")], .lst [], .lst [.c (.str "a")], .a (.c (.str "abcdefghi")), .a (.c (.int 32767)), .a (.c (.int 32768))]
theorem im_ok : (imA.map Im.d ++ imB.map Im.d).all (ok3 1) = true := by decide +kernel
section
variable {P : Program} {w : World} {K : PySem.W.Frag} {mg : Str → Option Value} {base : Heap}
/-! ### _law_strange -/
def spStrange : Sp := fun vs H Q _ => ∃ S d w c N, vs = [.ref d] ∧ Dr H d w c N ∧ N ≤ 1000000000 ∧ d ∈ S ∧ w ∈ S ∧ Fr H S ∧ ∀ H' x dd, Kp [d, w] H H' → Dr H' d w c (N + 1) → Da S H' x dd → ok3 1 dd = true → Q x H'
end
end K18
set_option Elab.async false
set_option linter.all false
set_option maxRecDepth 100000
set_option maxHeartbeats 1000000
namespace K18
open PySem PySem.Spec PyProof.Rows L2 Kb
def okL (n : Nat) (ds : List PyData) : Prop := ∀ d ∈ ds, d.canLay0 = true ∧ d.depth ≤ n
theorem okL_all {n : Nat} : ∀ {ds : List PyData}, okL n ds → PyData.canLayAll0 ds = true ∧ PyData.depthAll ds ≤ n
  | [], _ => ⟨rfl, Nat.zero_le _⟩
  | d :: ds, h => by
    obtain ⟨h1, h2⟩ := okL_all (fun x hx => h x (List.mem_cons_of_mem _ hx))
    obtain ⟨h3, h4⟩ := h d List.mem_cons_self
    refine ⟨?_, ?_⟩
    · show (PyData.canLay0 d && PyData.canLayAll0 ds) = true
      rw [h1, h3] <;> rfl
    · show max (PyData.depth d) (PyData.depthAll ds) ≤ n
      exact Nat.max_le.mpr ⟨h4, h2⟩
theorem ok3_tup {n : Nat} {ds : List PyData} (h : okL n ds) (hl : ds.length ≤ 50) : ok3 (n + 1) (.tuple ds) = true := ok3_mk (okL_all h).1 (Nat.succ_le_succ (okL_all h).2) hl
theorem ok3_lst {n : Nat} {ds : List PyData} (h : okL n ds) (hl : ds.length ≤ 50) : ok3 (n + 1) (.list ds) = true := ok3_mk (okL_all h).1 (Nat.succ_le_succ (okL_all h).2) hl
theorem ok3_mono {n m : Nat} {d : PyData} (h : ok3 n d = true) (hn : n ≤ m) : ok3 m d = true := by
  obtain ⟨h1, h2, h3⟩ := ok3_of h
  exact ok3_mk h1 (by omega) h3
theorem okL_mono {n m : Nat} {ds : List PyData} (h : okL n ds) (hn : n ≤ m) : okL m ds := fun d hd => ⟨(h d hd).1, Nat.le_trans (h d hd).2 hn⟩
theorem okL_app {n : Nat} {ds es : List PyData} (h : okL n ds) (h2 : okL n es) : okL n (ds ++ es) := fun d hd => by
  rcases List.mem_append.mp hd with z | z
  · exact h d z
  · exact h2 d z
theorem okL_sub {n : Nat} {ds es : List PyData} (h : okL n ds) (hs : ∀ x ∈ es, x ∈ ds) : okL n es := fun d hd => h d (hs d hd)
theorem Fr.kpd {H H' : Hp} {S : List Addr} {d w c : Addr} {N : Nat} (f : Fr H S) (k : Kp [d, w] H H') (D : Dr H' d w c N) : Fr H' S := fun s hs e => by
  by_cases h : s ∈ [d, w]
  · obtain ⟨⟨r, t, ed, _, _⟩, ⟨ws, ew, _⟩, _⟩ := D
    simp only [List.mem_cons, List.not_mem_nil, or_false] at h
    rcases h with h | h
    · rw [h, ed] at e; cases e
    · rw [h, ew] at e; cases e
  · cases q : H s with
    | none => exact f s hs q
    | some o =>
      rw [k s o q (.inr h)] at e
      cases e
theorem catA {K : PySem.W.Frag} {H : Hp} {a b : Addr} {xs ys : List V} {Q : VK} (ea : H a = some (.tup xs)) (eb : H b = some (.tup ys)) (hl : xs.length + ys.length ≤ 1000) (h : ∀ r H', Kp [] H H' → H' r = some (.tup (xs ++ ys)) → Q (.ref r) H') : rCatA K (.ref a) (.ref b) H Q :=
  ⟨a, b, xs, ys, rfl, rfl, sqT ea, sqT eb, small hl, fun z => h b H .refl (by rw [z]; exact eb), fun _ z => h a H .refl (by rw [z, List.append_nil]; exact ea), fun _ _ p np => h p _ (Kp.new np) upd_same⟩
theorem slA {K : PySem.W.Frag} {H : Hp} {a : Addr} {xs : List V} {lo hi : Option Int} {Q : VK} (ea : H a = some (.tup xs)) (h : ∀ r H', Kp [] H H' → H' r = some (.tup (cutV xs lo hi)) → Q (.ref r) H') : rSlA K (.ref a) lo hi H Q := by
  refine ⟨a, xs, rfl, sqT ea, fun hf => h a H .refl ?_, fun _ p np => h p _ (Kp.new np) upd_same⟩
  have : cutV xs lo hi = xs := by
    unfold cutV
    rw [hf.1, hf.2]
    simp
  rw [this]
  exact ea
theorem cut_take (xs : List V) (n : Nat) : cutV xs none (some (n : Int)) = xs.take n := by
  unfold cutV
  rw [HT.sIx_none, HT.sIx_nat]
  rw [List.drop_zero, Nat.sub_zero]
  rcases Nat.le_total n xs.length with h | h
  · rw [Nat.min_eq_left h]
  · rw [Nat.min_eq_right h, List.take_of_length_le h, List.take_length]
theorem cut_drop (xs : List V) (n : Nat) : cutV xs (some (n : Int)) none = xs.drop n := by
  unfold cutV
  rw [HT.sIx_none, HT.sIx_nat]
  rcases Nat.le_total n xs.length with h | h
  · rw [Nat.min_eq_left h]
    exact List.take_of_length_le (by rw [List.length_drop]; exact Nat.le_refl _)
  · rw [Nat.min_eq_right h, List.drop_of_length_le h, List.drop_of_length_le (Nat.le_refl _), List.take_nil]
section
variable {P : Program} {w : World} {K : PySem.W.Frag} {mg : Str → Option Value} {base : Heap}
/-! ### _law_changed -/
def isT : PyData → Bool
  | .tuple _ => true
  | _ => false
/-- b: may it be a tuple (whose items are none)? -/
def TreeOk (b : Bool) (t : PyData) : Prop := (b = false → isT t = false) ∧ okL 0 (dsOf t) ∧ (dsOf t).length ≤ 20 ∧ ∀ e ∈ dsOf t, dsOf e = [] ∧ isT e = false
def spCh (b : Bool) : Sp := fun vs H Q _ => ∃ S d w c N x t, vs = [.ref d, x] ∧ Dr H d w c N ∧ N ≤ 100000000 + (if b then 0 else 10) ∧ d ∈ S ∧ w ∈ S ∧ Fr H S ∧ Da S H x t ∧ TreeOk b t ∧ ∀ H' x' t', Kp [d, w] H H' → Dr H' d w c (N + (if b then 10 else 5)) → Da S H' x' t' → ok3 (if b then 2 else 1) t' = true → Q x' H'
end
end K18
set_option Elab.async false
set_option linter.all false
set_option maxRecDepth 100000
set_option maxHeartbeats 4000000
namespace K18
open PySem PySem.Spec PyProof.Rows L2 Kb
/-! ### the mathematics of trees -/
/-- a letter's sign: 1 is a -/
def let1 (c : Int) : Nat := (96 + c).toNat
/-- what the cells so far tell: the stack innermost first -/
structure RS where
  whole : List PyData
  stack : List (List PyData)
  word : List Nat
  digits : Option (List Int)
def RS.nil : RS := ⟨[], [], [], none⟩
def RS.put (s : RS) (d : PyData) : RS := match s.stack with
  | [] => { s with whole := s.whole ++ [d] }
  | x :: r => { s with stack := (x ++ [d]) :: r }
def isLetter (c : Int) : Bool := (decide (1 ≤ c) && decide (c ≤ 26)) || (decide (33 ≤ c) && decide (c ≤ 58))
def wStr (w : List Nat) : Str := ⟨w.toArray⟩
def numOf (ds : List Int) : Int := ds.foldl (fun n d => n * 32 + d) 0
def stepPlain (s : RS) (c : Int) : Option RS :=
  if c = 29 then some (s.put .none) else if c = 32 then some (s.put (.str (wStr []))) else if c = 31 ∨ c = 30 then some (s.put (.bool (decide (c = 31)))) else none
def stepLetter (s : RS) (c : Int) : Option RS :=
  if c < 32 then (if (s.word ++ [let1 (c % 32)]).length < 8 then some { s with word := s.word ++ [let1 (c % 32)] } else none)
  else some (({ s with word := [] } : RS).put (.str (wStr (s.word ++ [let1 (c % 32)]))))
def stepDigit (s : RS) (ds : List Int) (c : Int) : Option RS :=
  if 32 ≤ c then (if (ds ++ [c % 32]).length < 3 ∧ (32 < c ∨ 1 < (ds ++ [c % 32]).length) then some { s with digits := some (ds ++ [c % 32]) } else none)
  else some (({ s with digits := none } : RS).put (.int (numOf (ds ++ [c % 32]))))
def step (s : RS) (c : Int) : Option RS :=
  if s.whole = [] then
    match s.digits with
    | some ds => stepDigit s ds c
    | none =>
      if isLetter c then stepLetter s c
      else if s.word = [] then
        (if c = 59 then some { s with digits := some [] }
        else if c = 27 then (if s.stack.length + 1 ≤ 12 then some { s with stack := [] :: s.stack } else none)
        else if c = 28 then (match s.stack with
          | [] => none
          | x :: r => some (({ s with stack := r } : RS).put (.tuple x)))
        else stepPlain s c)
      else none
  else none
/-- the reading of cells from an index on: the state, or the index of the first wrong cell -/
def runs : RS → Nat → List Int → Except Nat RS
  | s, _, [] => .ok s
  | s, i, c :: r => match step s c with
    | none => .error i
    | some s' => runs s' (i + 1) r
def treeOf (ns : List Int) : Except Nat PyData := match runs .nil 0 ns with
  | .error i => .error i
  | .ok s => match s.whole with
    | [] => .error ns.length
    | d :: _ => .ok d
/-! #### trees' cells -/
def lw (c : Nat) : Int := (c : Int) - 96
def wordCells (w : List Nat) : List Int := match w.reverse with
  | [] => [32]
  | l :: r => r.reverse.map lw ++ [lw l + 32]
def numCells (n : Int) : List Int := if 1024 ≤ n then [n / 1024 + 32, n / 32 % 32 + 32, n % 32] else if 32 ≤ n then [n / 32 + 32, n % 32] else [n % 32]
def isWord (x : Str) : Bool := decide (x.length ≤ 8) && x.cps.toList.all fun c => decide (97 ≤ c) && decide (c ≤ 122)
mutual
def isTree : Nat → PyData → Bool
  | _, .none => true
  | _, .bool _ => true
  | _, .int i => decide (0 ≤ i) && decide (i ≤ 32767)
  | _, .str x => isWord x
  | 0, .tuple _ => false
  | n + 1, .tuple ds => areTrees n ds
  | _, _ => false
def areTrees : Nat → List PyData → Bool
  | _, [] => true
  | n, d :: ds => isTree n d && areTrees n ds
end
mutual
def cellsOf : PyData → List Int
  | .none => [29]
  | .bool b => [if b then 31 else 30]
  | .int i => 59 :: numCells i
  | .str x => wordCells x.cps.toList
  | .tuple ds => 27 :: (cellsAll ds ++ [28])
  | _ => []
def cellsAll : List PyData → List Int
  | [] => []
  | d :: ds => cellsOf d ++ cellsAll ds
end
theorem runs_some {s s' : RS} {i : Nat} {c : Int} {r : List Int} (h : step s c = some s') : runs s i (c :: r) = runs s' (i + 1) r := by
  show (match step s c with | none => Except.error i | some s' => runs s' (i + 1) r) = _
  rw [h]
theorem runs_none {s : RS} {i : Nat} {c : Int} {r : List Int} (h : step s c = none) : runs s i (c :: r) = .error i := by
  show (match step s c with | none => Except.error i | some s' => runs s' (i + 1) r) = _
  rw [h]
theorem runs_app (r : List Int) : ∀ (l : List Int) (s : RS) (i : Nat), runs s i (l ++ r) = match runs s i l with
    | .error e => .error e
    | .ok s' => runs s' (i + l.length) r
  | [], s, i => rfl
  | c :: l, s, i => by
    show (match step s c with | none => Except.error i | some s' => runs s' (i + 1) (l ++ r)) = _
    show _ = (match (match step s c with | none => Except.error i | some s' => runs s' (i + 1) l) with | .error e => Except.error e | .ok s' => runs s' (i + (l.length + 1)) r)
    cases h : step s c with
    | none => rfl
    | some s' =>
      show runs s' (i + 1) (l ++ r) = _
      rw [runs_app r l s' (i + 1), show i + (l.length + 1) = i + 1 + l.length by omega]
/-- nothing told as yet, no word, no number under way -/
def Calm (s : RS) : Prop := s.whole = [] ∧ s.word = [] ∧ s.digits = none
theorem step_calm {s : RS} (h : Calm s) (c : Int) : step s c = if isLetter c then stepLetter s c else if c = 59 then some { s with digits := some [] } else if c = 27 then (if s.stack.length + 1 ≤ 12 then some { s with stack := [] :: s.stack } else none)
    else if c = 28 then (match s.stack with | [] => none | x :: r => some (({ s with stack := r } : RS).put (.tuple x))) else stepPlain s c := by
  unfold step
  rw [if_pos h.1, h.2.2]
  simp only [h.2.1, if_true]
theorem step_let {st : List (List PyData)} {wd : List Nat} {c : Int} (h : isLetter c = true) : step ⟨[], st, wd, none⟩ c = stepLetter ⟨[], st, wd, none⟩ c := by
  show (if isLetter c then stepLetter _ _ else _) = _
  rw [if_pos h]
theorem runs_word : ∀ (w : List Nat) (l : Nat) (st : List (List PyData)) (wd : List Nat) (i : Nat), (∀ c ∈ w ++ [l], 97 ≤ c ∧ c ≤ 122) → wd.length + w.length + 1 ≤ 8 →
    runs ⟨[], st, wd, none⟩ i (w.map lw ++ [lw l + 32]) = .ok ((⟨[], st, [], none⟩ : RS).put (.str (wStr (wd ++ w ++ [l]))))
  | [], l, st, wd, i, hc, hl => by
    have hb := hc l (by simp)
    have e1 : isLetter (lw l + 32) = true := by
      unfold isLetter lw
      simp
      omega
    have e2 : let1 ((lw l + 32) % 32) = l := by
      unfold let1 lw
      omega
    have e3 : step ⟨[], st, wd, none⟩ (lw l + 32) = some ((⟨[], st, [], none⟩ : RS).put (.str (wStr (wd ++ [l])))) := by
      rw [step_let e1]
      unfold stepLetter
      rw [if_neg (by unfold lw; omega), e2]
    show runs _ i ((lw l + 32) :: []) = _
    rw [runs_some e3, List.append_nil]
    rfl
  | a :: w, l, st, wd, i, hc, hl => by
    have hb := hc a (by simp)
    have e1 : isLetter (lw a) = true := by
      unfold isLetter lw
      simp
      omega
    have e2 : let1 (lw a % 32) = a := by
      unfold let1 lw
      omega
    have hl' : wd.length + (w.length + 1) + 1 ≤ 8 := hl
    have e3 : step ⟨[], st, wd, none⟩ (lw a) = some ⟨[], st, wd ++ [a], none⟩ := by
      rw [step_let e1]
      unfold stepLetter
      rw [if_pos (by unfold lw; omega), e2, if_pos (by rw [List.length_append]; show wd.length + 1 < 8; omega)]
    show runs _ i (lw a :: (w.map lw ++ [lw l + 32])) = _
    rw [runs_some e3, runs_word w l st (wd ++ [a]) (i + 1) (fun c m => hc c (List.mem_cons_of_mem _ m)) (by rw [List.length_append]; show wd.length + 1 + w.length + 1 ≤ 8; omega)]
    rw [show (wd ++ [a]) ++ w ++ [l] = wd ++ a :: w ++ [l] by simp]
theorem step_dig {st : List (List PyData)} {ds : List Int} {c : Int} : step ⟨[], st, [], some ds⟩ c = stepDigit ⟨[], st, [], some ds⟩ ds c := rfl
theorem dig_last {st : List (List PyData)} {ds : List Int} {c : Int} (hc : c < 32) : step ⟨[], st, [], some ds⟩ c = some ((⟨[], st, [], none⟩ : RS).put (.int (numOf (ds ++ [c % 32])))) := by
  rw [step_dig]
  unfold stepDigit
  rw [if_neg (by omega)]
theorem dig_more {st : List (List PyData)} {ds : List Int} {c : Int} (hc : 32 ≤ c) (hd : (ds ++ [c % 32]).length < 3 ∧ (32 < c ∨ 1 < (ds ++ [c % 32]).length)) : step ⟨[], st, [], some ds⟩ c = some ⟨[], st, [], some (ds ++ [c % 32])⟩ := by
  rw [step_dig]
  unfold stepDigit
  rw [if_pos hc, if_pos hd]
theorem runs_num {st : List (List PyData)} {i : Nat} {n : Int} (h0 : 0 ≤ n) (h1 : n ≤ 32767) : runs ⟨[], st, [], none⟩ i (59 :: numCells n) = .ok ((⟨[], st, [], none⟩ : RS).put (.int n)) := by
  have f1 : step ⟨[], st, [], none⟩ 59 = some ⟨[], st, [], some []⟩ := rfl
  rw [runs_some f1]
  unfold numCells
  by_cases g1 : 1024 ≤ n
  · rw [if_pos g1, runs_some (dig_more (ds := []) (by omega) ⟨by simp, .inl (by omega)⟩), runs_some (dig_more (by omega) ⟨by simp, .inr (by simp)⟩), runs_some (dig_last (by omega))]
    show Except.ok ((⟨[], st, [], none⟩ : RS).put (.int (((0 * 32 + (n / 1024 + 32) % 32) * 32 + (n / 32 % 32 + 32) % 32) * 32 + n % 32 % 32))) = _
    rw [show ((0 * 32 + (n / 1024 + 32) % 32) * 32 + (n / 32 % 32 + 32) % 32) * 32 + n % 32 % 32 = n by omega]
  · rw [if_neg g1]
    by_cases g2 : 32 ≤ n
    · rw [if_pos g2, runs_some (dig_more (ds := []) (by omega) ⟨by simp, .inl (by omega)⟩), runs_some (dig_last (by omega))]
      show Except.ok ((⟨[], st, [], none⟩ : RS).put (.int ((0 * 32 + (n / 32 + 32) % 32) * 32 + n % 32 % 32))) = _
      rw [show (0 * 32 + (n / 32 + 32) % 32) * 32 + n % 32 % 32 = n by omega]
    · rw [if_neg g2, runs_some (dig_last (ds := []) (by omega))]
      show Except.ok ((⟨[], st, [], none⟩ : RS).put (.int (0 * 32 + n % 32 % 32))) = _
      rw [show 0 * 32 + n % 32 % 32 = n by omega]
theorem word_eq {x : Str} : wStr x.cps.toList = x := by
  unfold wStr
  rw [Array.toArray_toList]
theorem runs_str {st : List (List PyData)} {i : Nat} {x : Str} (h : isWord x = true) : runs ⟨[], st, [], none⟩ i (wordCells x.cps.toList) = .ok ((⟨[], st, [], none⟩ : RS).put (.str x)) := by
  obtain ⟨h1, h2⟩ := Bool.and_eq_true_iff.mp h
  have h1 : x.cps.toList.length ≤ 8 := by
    have := of_decide_eq_true h1
    rw [Array.length_toList]
    exact this
  have h2 : ∀ c ∈ x.cps.toList, 97 ≤ c ∧ c ≤ 122 := fun c m => by
    have := List.all_eq_true.mp h2 c m
    simpa using this
  obtain ⟨w, hw⟩ : ∃ w, w = x.cps.toList := ⟨_, rfl⟩
  have ex : x = wStr w := by rw [hw, word_eq]
  rw [← hw] at h1 h2 ⊢
  rw [ex]
  unfold wordCells
  cases hr : w.reverse with
  | nil =>
    have : w = [] := List.reverse_eq_nil_iff.mp hr
    subst this
    rfl
  | cons l r =>
    have hw2 : w = r.reverse ++ [l] := by rw [← List.reverse_reverse w, hr, List.reverse_cons]
    rw [hw2] at h1 h2
    dsimp only
    rw [runs_word r.reverse l st [] i h2 (by rw [List.length_append] at h1; show 0 + r.reverse.length + 1 ≤ 8; have : ([l] : List Nat).length = 1 := rfl; omega), hw2]
    rfl
theorem put_nil {st : List (List PyData)} {x : List PyData} {d : PyData} : (⟨[], x :: st, [], none⟩ : RS).put d = ⟨[], (x ++ [d]) :: st, [], none⟩ := rfl
mutual
theorem runs_tree : ∀ (d : PyData) (n : Nat) (st : List (List PyData)) (i : Nat), isTree n d = true → st.length + n ≤ 12 → runs ⟨[], st, [], none⟩ i (cellsOf d) = .ok ((⟨[], st, [], none⟩ : RS).put d)
  | .none, n, st, i, h, hn => rfl
  | .bool b, n, st, i, h, hn => by cases b <;> rfl
  | .int v, n, st, i, h, hn => by
    unfold isTree at h
    obtain ⟨h1, h2⟩ := Bool.and_eq_true_iff.mp h
    unfold cellsOf
    exact runs_num (of_decide_eq_true h1) (of_decide_eq_true h2)
  | .str x, n, st, i, h, hn => by
    unfold isTree at h
    unfold cellsOf
    exact runs_str h
  | .tuple ds, 0, st, i, h, hn => by
    unfold isTree at h
    cases h
  | .tuple ds, n + 1, st, i, h, hn => by
    unfold isTree at h
    unfold cellsOf
    have f1 : step ⟨[], st, [], none⟩ 27 = some ⟨[], [] :: st, [], none⟩ := by
      show (if st.length + 1 ≤ 12 then _ else _) = _
      rw [if_pos (by omega)]
    rw [runs_some f1, runs_app, runs_trees ds n st [] (i + 1) h (by show st.length + 1 + n ≤ 12; omega)]
    have f2 : step ⟨[], ([] ++ ds) :: st, [], none⟩ 28 = some ((⟨[], st, [], none⟩ : RS).put (.tuple ds)) := rfl
    dsimp only
    rw [runs_some f2]
    rfl
  | .list _, n, _, _, h, _ => by cases n <;> (unfold isTree at h; cases h)
  | .dict _, n, _, _, h, _ => by cases n <;> (unfold isTree at h; cases h)
theorem runs_trees : ∀ (ds : List PyData) (n : Nat) (st : List (List PyData)) (x : List PyData) (i : Nat), areTrees n ds = true → st.length + 1 + n ≤ 12 → runs ⟨[], x :: st, [], none⟩ i (cellsAll ds) = .ok ⟨[], (x ++ ds) :: st, [], none⟩
  | [], n, st, x, i, h, hn => by
    rw [List.append_nil]
    rfl
  | d :: ds, n, st, x, i, h, hn => by
    unfold areTrees at h
    obtain ⟨h1, h2⟩ := Bool.and_eq_true_iff.mp h
    unfold cellsAll
    rw [runs_app, runs_tree d n (x :: st) i h1 hn, put_nil]
    dsimp only
    rw [runs_trees ds n st (x ++ [d]) _ h2 hn, List.append_assoc]
    rfl
end
theorem tree_back {d : PyData} (h : isTree 12 d = true) : treeOf (cellsOf d) = .ok d := by
  unfold treeOf
  have e := runs_tree d 12 [] 0 h (by decide)
  show (match runs ⟨[], [], [], none⟩ 0 (cellsOf d) with | .error i => Except.error i | .ok s => _) = _
  rw [e]
  rfl
theorem cells_ne {d : PyData} {n : Nat} (h : isTree n d = true) : cellsOf d ≠ [] := by
  intro e
  cases d with
  | none => cases e
  | bool b => cases e
  | int i => cases e
  | str x =>
    have e : wordCells x.cps.toList = [] := e
    unfold wordCells at e
    cases hr : x.cps.toList.reverse with
    | nil => rw [hr] at e; cases e
    | cons l r =>
      rw [hr] at e
      have := congrArg List.length e
      simp at this
  | tuple ds => cases e
  | list ds => cases n <;> (unfold isTree at h; cases h)
  | dict ds => cases n <;> (unfold isTree at h; cases h)
/-- no tree's cells go on -/
theorem tree_more {d : PyData} {r : List Int} (h : isTree 12 d = true) (hr : r ≠ []) : treeOf (cellsOf d ++ r) = .error (cellsOf d).length := by
  unfold treeOf
  have e := runs_tree d 12 [] 0 h (by decide)
  cases r with
  | nil => exact absurd rfl hr
  | cons c r =>
    rw [runs_app, show (RS.nil = ⟨[], [], [], none⟩) from rfl, e]
    dsimp only
    rw [runs_none (c := c) (r := r) (s := (⟨[], [], [], none⟩ : RS).put d) rfl, Nat.zero_add]
theorem no_begin {d e : PyData} {r : List Int} (hd : isTree 12 d = true) (he : isTree 12 e = true) (h : cellsOf d = cellsOf e ++ r) : r = [] := by
  cases r with
  | nil => rfl
  | cons c r =>
    have e1 := tree_more he (r := c :: r) (by simp)
    rw [← h, tree_back hd] at e1
    cases e1
end K18
set_option Elab.async false
set_option linter.all false
set_option maxRecDepth 100000
set_option maxHeartbeats 4000000
namespace K18
open PySem PySem.Spec PyProof.Rows L2 Kb
section
variable {S S' : List Addr} {H : Hp}
mutual
theorem Da.sub (h : ∀ b ∈ S', b ∈ S) : ∀ {d : PyData} {x : V}, Da S H x d → Da S' H x d
  | .none, _, .non => .non
  | .bool _, _, .bl _ => .bl _
  | .int _, _, .int _ => .int _
  | .str _, _, .str _ => .str _
  | .list _, _, .lst e n q => .lst e (fun m => n (h _ m)) (DaL.sub h q)
  | .tuple _, _, .tup e q => .tup e (DaL.sub h q)
theorem DaL.sub (h : ∀ b ∈ S', b ∈ S) : ∀ {ds : List PyData} {xs : List V}, DaL S H xs ds → DaL S' H xs ds
  | [], _, .nil => .nil
  | _ :: _, _, .cons a r => .cons (Da.sub h a) (DaL.sub h r)
end
end
/-- data of tuples alone: stays whatever changes -/
theorem DaL.any {H H' : Hp} {T : List Addr} {xs : List V} {ds : List PyData} (k : Kp T H H') (h : ∀ S, DaL S H xs ds) (S : List Addr) : DaL S H' xs ds :=
  DaL.sub (fun b m => List.mem_append_left T m) ((h (S ++ T)).kp (k.mono fun b m => List.mem_append_right S m))
theorem Da.any {H H' : Hp} {T : List Addr} {x : V} {d : PyData} (k : Kp T H H') (h : ∀ S, Da S H x d) (S : List Addr) : Da S H' x d :=
  Da.sub (fun b m => List.mem_append_left T m) ((h (S ++ T)).kp (k.mono fun b m => List.mem_append_right S m))
theorem DaL.snoc {S : List Addr} {H : Hp} {xs : List V} {ds : List PyData} {x : V} {d : PyData} (h : DaL S H xs ds) (hx : Da S H x d) : DaL S H (xs ++ [x]) (ds ++ [d]) := h.app (.cons hx .nil)

/-! ### the reading as it stands in memory -/
def rf (lw lb : Addr) (w : Str) (dv : V) : List (Str × V) := [("whole", .ref lw), ("begun", .ref lb), ("word", .str w), ("digits", dv)]
theorem rf_whole {lw lb : Addr} {w : Str} {dv : V} : (rf lw lb w dv).lookup ("whole" : Str) = some (.ref lw) := by
  unfold rf
  rw [List.lookup_cons]
  rw [show (("whole" : Str) == "whole") = true by decide +kernel]
theorem rf_begun {lw lb : Addr} {w : Str} {dv : V} : (rf lw lb w dv).lookup ("begun" : Str) = some (.ref lb) := by
  unfold rf
  rw [List.lookup_cons, show (("begun" : Str) == "whole") = false by decide +kernel]
  dsimp only
  rw [List.lookup_cons, show (("begun" : Str) == "begun") = true by decide +kernel]
theorem rf_word {lw lb : Addr} {w : Str} {dv : V} : (rf lw lb w dv).lookup ("word" : Str) = some (.str w) := by
  unfold rf
  rw [List.lookup_cons, show (("word" : Str) == "whole") = false by decide +kernel]
  dsimp only
  rw [List.lookup_cons, show (("word" : Str) == "begun") = false by decide +kernel]
  dsimp only
  rw [List.lookup_cons, show (("word" : Str) == "word") = true by decide +kernel]
theorem rf_digits {lw lb : Addr} {w : Str} {dv : V} : (rf lw lb w dv).lookup ("digits" : Str) = some dv := by
  unfold rf
  rw [List.lookup_cons, show (("digits" : Str) == "whole") = false by decide +kernel]
  dsimp only
  rw [List.lookup_cons, show (("digits" : Str) == "begun") = false by decide +kernel]
  dsimp only
  rw [List.lookup_cons, show (("digits" : Str) == "word") = false by decide +kernel]
  dsimp only
  rw [List.lookup_cons, show (("digits" : Str) == "digits") = true by decide +kernel]
theorem rf_no {lw lb : Addr} {w : Str} {dv : V} {m : Str} (h : (m == "whole") = false ∧ (m == "begun") = false ∧ (m == "word") = false ∧ (m == "digits") = false) : (rf lw lb w dv).lookup m = none := by
  obtain ⟨h1, h2, h3, h4⟩ := h
  unfold rf
  rw [List.lookup_cons, h1]
  dsimp only
  rw [List.lookup_cons, h2]
  dsimp only
  rw [List.lookup_cons, h3]
  dsimp only
  rw [List.lookup_cons, h4]
  rfl
theorem put_word {lw lb : Addr} {w w' : Str} {dv : V} : putF "word" (.str w') (rf lw lb w dv) = rf lw lb w' dv := by
  unfold rf
  show (if ("whole" : Str) = "word" then _ else (("whole" : Str), V.ref lw) :: (if ("begun" : Str) = "word" then _ else (("begun" : Str), V.ref lb) :: (if ("word" : Str) = "word" then [(("word" : Str), V.str w'), ("digits", dv)] else _))) = _
  rw [if_neg (by decide +kernel), if_neg (by decide +kernel), if_pos rfl]
theorem put_digits {lw lb : Addr} {w : Str} {dv dv' : V} : putF "digits" dv' (rf lw lb w dv) = rf lw lb w dv' := by
  unfold rf
  show (if ("whole" : Str) = "digits" then _ else (("whole" : Str), V.ref lw) :: (if ("begun" : Str) = "digits" then _ else (("begun" : Str), V.ref lb) :: (if ("word" : Str) = "digits" then _ else (("word" : Str), V.str w) :: (if ("digits" : Str) = "digits" then [(("digits" : Str), dv')] else _)))) = _
  rw [if_neg (by decide +kernel), if_neg (by decide +kernel), if_neg (by decide +kernel), if_pos rfl]
theorem put_new {lw lb : Addr} : putF "digits" .non (putF "word" (.str "") (putF "begun" (.ref lb) (putF "whole" (.ref lw) []))) = rf lw lb (wStr []) .non := by
  have ne : ∀ {f g : Str} {v x : V} {r : List (Str × V)}, ¬ g = f → putF f v ((g, x) :: r) = (g, x) :: putF f v r := fun h => if_neg h
  have one : ∀ {f : Str} {v : V}, putF f v [] = [(f, v)] := rfl
  repeat (first | rw [one] | rw [ne (by decide +kernel)])
  rfl
/-- a list's items are such data -/
def LsAt (H : Hp) (b : Addr) (ds : List PyData) : Prop := ∃ xs, H b = some (.lst xs) ∧ ∀ S, DaL S H xs ds
structure RdAt (C : Addr) (H0 H : Hp) (p : Addr) (N : Nat) (s : RS) (dx lw lb : Addr) (bs : List Addr) (dv : V) : Prop where
  ob : H p = some (.ins C dx (rf lw lb (wStr s.word) dv))
  np : H0 p = none
  whole : LsAt H lw s.whole
  nw : H0 lw = none
  begun : H lb = some (.lst (bs.reverse.map .ref))
  nb : H0 lb = none
  ne : lw ≠ lb
  nd : bs.Nodup
  fr : ∀ b ∈ bs, b ≠ lw ∧ b ≠ lb ∧ H0 b = none
  stk : Paired (LsAt H) bs s.stack
  dig : (dv = .non ∧ s.digits = none) ∨ ∃ ld ns, dv = .ref ld ∧ H ld = some (.lst (ns.map .int)) ∧ s.digits = some ns ∧ H0 ld = none ∧ ld ≠ lw ∧ ld ≠ lb ∧ ld ∉ bs
  kp : Kp [] H0 H
  bw : s.whole.length ≤ N
  bs_ : s.stack.length ≤ N
  bi : ∀ ds ∈ s.stack, ds.length ≤ N
  bl : s.word.length < 8
  bd : ∀ ns, s.digits = some ns → ns.length ≤ 3 ∧ ∀ d ∈ ns, 0 ≤ d ∧ d ≤ 31
def Rd (C : Addr) (H0 H : Hp) (p : Addr) (N : Nat) (s : RS) : Prop := ∃ dx lw lb bs dv, RdAt C H0 H p N s dx lw lb bs dv
theorem LsAt.any {T : List Addr} {H H' : Hp} {b : Addr} {ds : List PyData} (k : Kp T H H') (hb : b ∉ T) : LsAt H b ds → LsAt H' b ds := fun ⟨xs, e, h⟩ => ⟨xs, k b _ e (.inr hb), fun S => DaL.any k h S⟩
theorem stk_any {T : List Addr} {H H' : Hp} (k : Kp T H H') : ∀ {bs : List Addr} {st : List (List PyData)}, (∀ b ∈ bs, b ∉ T) → Paired (LsAt H) bs st → Paired (LsAt H') bs st
  | _, _, _, .nil => .nil
  | _, _, h, .cons a r => .cons (a.any k (h _ List.mem_cons_self)) (stk_any k (fun b m => h b (List.mem_cons_of_mem _ m)) r)
theorem RdAt.kp0 {C : Addr} {H0 H H' : Hp} {p : Addr} {N : Nat} {s : RS} {dx lw lb : Addr} {bs : List Addr} {dv : V} (r : RdAt C H0 H p N s dx lw lb bs dv) (k : Kp [] H H') : RdAt C H0 H' p N s dx lw lb bs dv :=
  ⟨k _ _ r.ob (.inr List.not_mem_nil), r.np, r.whole.any k List.not_mem_nil, r.nw, k _ _ r.begun (.inr List.not_mem_nil), r.nb, r.ne, r.nd, r.fr, stk_any k (fun _ _ => List.not_mem_nil) r.stk,
    r.dig.imp id fun ⟨ld, ns, h1, h2, h3⟩ => ⟨ld, ns, h1, k _ _ h2 (.inr List.not_mem_nil), h3⟩, r.kp.trans k, r.bw, r.bs_, r.bi, r.bl, r.bd⟩
theorem RdAt.mono {C : Addr} {H0 H : Hp} {p : Addr} {N M : Nat} {s : RS} {dx lw lb : Addr} {bs : List Addr} {dv : V} (r : RdAt C H0 H p N s dx lw lb bs dv) (h : N ≤ M) : RdAt C H0 H p M s dx lw lb bs dv :=
  { r with bw := Nat.le_trans r.bw h, bs_ := Nat.le_trans r.bs_ h, bi := fun ds m => Nat.le_trans (r.bi ds m) h }
/-- what is no tuple and stands at l alone is exchanged -/
theorem kp_set {H : Hp} {l : Addr} {o o' : HO} (e : H l = some o) (n : isTup o = false) : Kp [l] H (upd H l o') := Kp.refl.set (List.mem_singleton.mpr rfl) fun u q => by
  rw [e] at q
  cases q
  exact n
theorem kp_base {H0 H : Hp} {l : Addr} {o : HO} (k : Kp [] H0 H) (n : H0 l = none) : Kp [] H0 (upd H l o) := fun b x e h => by
  rw [upd_ne (ne_of_none e n)]
  exact k b x e h
theorem RdAt.p_ne {C : Addr} {H0 H : Hp} {p : Addr} {N : Nat} {s : RS} {dx lw lb : Addr} {bs : List Addr} {dv : V} (r : RdAt C H0 H p N s dx lw lb bs dv) {b : Addr} {xs : List V} (e : H b = some (.lst xs)) : p ≠ b := fun z => by
  have := r.ob
  rw [z, e] at this
  cases this
theorem stk_p {T : List Addr} {H H' : Hp} (k : Kp T H H') (hn : ∀ {b : Addr} {xs : List V}, H b = some (.lst xs) → b ∉ T) : ∀ {bs : List Addr} {st : List (List PyData)}, Paired (LsAt H) bs st → Paired (LsAt H') bs st
  | _, _, .nil => .nil
  | _, _, .cons a r => .cons (let ⟨_, e, _⟩ := a; LsAt.any k (hn e) a) (stk_p k hn r)
/-- the reading's own fields change: word or digits -/
theorem RdAt.setP {C : Addr} {H0 H : Hp} {p : Addr} {N : Nat} {s : RS} {dx lw lb : Addr} {bs : List Addr} {dv dv' : V} (r : RdAt C H0 H p N s dx lw lb bs dv) (w : List Nat) (d : Option (List Int)) (hw : w.length < 8) (hd : ∀ ns, d = some ns → ns.length ≤ 3 ∧ ∀ d ∈ ns, 0 ≤ d ∧ d ≤ 31)
    (h : (dv' = .non ∧ d = none) ∨ ∃ ld ns, dv' = .ref ld ∧ H ld = some (.lst (ns.map .int)) ∧ d = some ns ∧ H0 ld = none ∧ ld ≠ lw ∧ ld ≠ lb ∧ ld ∉ bs) :
    RdAt C H0 (upd H p (.ins C dx (rf lw lb (wStr w) dv'))) p N { s with word := w, digits := d } dx lw lb bs dv' := by
  have k : Kp [p] H (upd H p (.ins C dx (rf lw lb (wStr w) dv'))) := kp_set r.ob rfl
  obtain ⟨ws, ew, hws⟩ := r.whole
  have np : ∀ {b : Addr} {xs : List V}, H b = some (.lst xs) → b ∉ [p] := fun e m => r.p_ne e (List.mem_singleton.mp m).symm
  refine ⟨upd_same, r.np, LsAt.any k (np ew) r.whole, r.nw, k _ _ r.begun (.inr (np r.begun)), r.nb, r.ne, r.nd, r.fr, ?_, ?_, kp_base r.kp r.np, r.bw, r.bs_, r.bi, hw, hd⟩
  · exact stk_p k np r.stk
  · exact h.imp id fun ⟨ld, ns, h1, h2, h3⟩ => ⟨ld, ns, h1, k _ _ h2 (.inr (np h2)), h3⟩
end K18
set_option Elab.async false
set_option linter.all false
set_option maxRecDepth 100000
set_option maxHeartbeats 4000000
namespace K18
open PySem PySem.Spec PyProof.Rows L2 Kb
/-! ### the class's text -/
abbrev s_init : Stmt := inClass (topS 23) 0
theorem sc_init : FnScope ["self"] ["self"] (defScope s_init) := ⟨rfl, rfl, rfl, by decide +kernel, rfl, by decide +kernel, by decide +kernel⟩
abbrev s_t_take : Stmt := inClass (topS 23) 1
theorem sc_t_take : FnScope ["self", "cell"] ["self", "cell"] (defScope s_t_take) := ⟨rfl, rfl, rfl, by decide +kernel, rfl, by decide +kernel, by decide +kernel⟩
abbrev s_plain : Stmt := inClass (topS 23) 2
theorem sc_plain : FnScope ["self", "cell"] ["self", "cell"] (defScope s_plain) := ⟨rfl, rfl, rfl, by decide +kernel, rfl, by decide +kernel, by decide +kernel⟩
abbrev s_letter : Stmt := inClass (topS 23) 3
theorem sc_letter : FnScope ["self", "cell", "word"] ["self", "cell"] (defScope s_letter) := ⟨rfl, rfl, rfl, by decide +kernel, rfl, by decide +kernel, by decide +kernel⟩
abbrev s_digit : Stmt := inClass (topS 23) 4
theorem sc_digit : FnScope ["self", "cell", "number", "digit"] ["self", "cell"] (defScope s_digit) := ⟨rfl, rfl, rfl, by decide +kernel, rfl, by decide +kernel, by decide +kernel⟩
abbrev s_put : Stmt := inClass (topS 23) 5
theorem sc_put : FnScope ["self", "tree", "held"] ["self", "tree"] (defScope s_put) := ⟨rfl, rfl, rfl, by decide +kernel, rfl, by decide +kernel, by decide +kernel⟩
/-- a global number or text -/
theorem pe_gi {X : Cx} {x : Str} {i : Int} {pos : Pos} (hg : Gl X x) (h : ∃ t, X.mg x = some (.int i t)) (hd : (x == ("__debug__" : Str)) = false := by decide) : PE X (.Name x pos) (tC (.int i)) := by
  obtain ⟨t, h⟩ := h
  exact pe_glob hg h ⟨t, rfl⟩ hd
theorem pe_gs {X : Cx} {x : Str} {z : Str} {pos : Pos} (hg : Gl X x) (h : ∃ t, X.mg x = some (.str z t)) (hd : (x == ("__debug__" : Str)) = false := by decide) : PE X (.Name x pos) (tC (.str z)) := by
  obtain ⟨t, h⟩ := h
  exact pe_glob hg h ⟨t, rfl⟩ hd
/-- the class, as it was made -/
structure Rc (K : PySem.W.Frag) (C : Addr) : Prop where
  cl : Cls K C
  n1 : NoAttr K C "whole"
  n2 : NoAttr K C "begun"
  n3 : NoAttr K C "word"
  n4 : NoAttr K C "digits"
/-- the numbers by name -/
structure Gn (mg : Str → Option Value) : Prop where
  MOST_TUPLES : ∃ t, mg "MOST_TUPLES" = some (.int 12 t)
  MOST_LETTERS : ∃ t, mg "MOST_LETTERS" = some (.int 8 t)
  MOST_DIGITS : ∃ t, mg "MOST_DIGITS" = some (.int 3 t)
  LETTERS : ∃ t, mg "LETTERS" = some (.str "abcdefghijklmnopqrstuvwxyz" t)
  BEGIN : ∃ t, mg "BEGIN" = some (.int 27 t)
  END : ∃ t, mg "END" = some (.int 28 t)
  NONE : ∃ t, mg "NONE" = some (.int 29 t)
  FALSE : ∃ t, mg "FALSE" = some (.int 30 t)
  TRUE : ∃ t, mg "TRUE" = some (.int 31 t)
  EMPTY : ∃ t, mg "EMPTY" = some (.int 32 t)
  NUMBER : ∃ t, mg "NUMBER" = some (.int 59 t)
  MARK : ∃ t, mg "MARK" = some (.int 32 t)
theorem putF_len {f : Str} {v : V} : ∀ {fs : List (Str × V)} {n : Nat}, fs.length ≤ n → (putF f v fs).length ≤ n + 1
  | [], n, _ => by
    show 1 ≤ n + 1
    omega
  | (g, x) :: r, n, h => by
    have h : r.length + 1 ≤ n := h
    show (if g = f then (g, v) :: r else (g, x) :: putF f v r).length ≤ n + 1
    split
    · show r.length + 1 ≤ n + 1
      omega
    · have := putF_len (f := f) (v := v) (fs := r) (n := n - 1) (by omega)
      show (putF f v r).length + 1 ≤ n + 1
      omega
section
variable {P : Program} {w : World} {K : PySem.W.Frag} {mg : Str → Option Value} {base : Heap}
/-! ### __init__ -/
def spInit (C : Addr) : Sp := fun vs H Q _ => ∃ p dx H0, vs = [.ref p] ∧ H p = some (.ins C dx []) ∧ H0 p = none ∧ Kp [] H0 H ∧ ∀ H', Rd C H0 H' p 0 RS.nil → Q .non H'
theorem ok_init {f C : Addr} {fd : FuncData} {k : Nat} (F : Fun K "__init__" "TreeReading.__init__" s_init f fd) (R : Rc K C) : FnOk P w K mg base CX0 (k + 1) f fd ["self"] (spInit C) := by
  refine F.ok sc_init (fun vs H Q E h => ?_) (fun cdv A outer s H vs Q E hr h => ?_)
  · obtain ⟨_, _, _, rfl, _⟩ := h
    rfl
  · obtain ⟨p, dx, H0, rfl, e0, n0, k0, q⟩ := h
    refine ⟨_, (pss_cons (ps_fld (pv 0) (pe_lst pa_nil) rfl)
      (pss_cons (ps_fld (pv 0) (pe_lst pa_nil) rfl)
      (pss_cons (ps_fld (pv 0) pe_str rfl)
      (pss_one (ps_fld (pv 0) pe_non rfl))))), ?_⟩
    refine ⟨small (by show 0 ≤ 1000; omega), fun lw nw => ?_⟩
    have pw : p ≠ lw := ne_of_none e0 nw
    refine ⟨.ref p, rfl, p, C, dx, [], rfl, by rw [upd_ne pw]; exact e0, R.cl, R.n1, by decide, ?_⟩
    refine ⟨small (by show 0 ≤ 1000; omega), fun lb nb => ?_⟩
    have pb : p ≠ lb := fun z => by
      rw [← z, upd_same] at nb
      cases nb
    have wb : lw ≠ lb := fun z => by
      rw [← z, upd_ne (Ne.symm pw), upd_same] at nb
      cases nb
    refine ⟨.ref p, rfl, p, C, dx, _, rfl, by rw [upd_ne pb, upd_same], R.cl, R.n2, Nat.lt_of_le_of_lt (putF_len (n := 0) (Nat.le_refl _)) (by decide), ?_⟩
    refine ⟨.ref p, rfl, p, C, dx, _, rfl, upd_same, R.cl, R.n3, Nat.lt_of_le_of_lt (putF_len (putF_len (n := 0) (Nat.le_refl _))) (by decide), ?_⟩
    refine ⟨.ref p, rfl, p, C, dx, _, rfl, upd_same, R.cl, R.n4, Nat.lt_of_le_of_lt (putF_len (putF_len (putF_len (n := 0) (Nat.le_refl _)))) (by decide), ?_⟩
    have nb0 : H lb = none := by
      rw [upd_ne (Ne.symm pb), upd_ne (Ne.symm wb)] at nb
      exact nb
    have h1 : H0 lw = none := k0.none List.not_mem_nil nw
    have h2 : H0 lb = none := k0.none List.not_mem_nil nb0
    refine q _ ⟨dx, lw, lb, [], .non, ?_, n0, ⟨[], ?_, fun _ => .nil⟩, h1, ?_, h2, wb, List.nodup_nil, (fun _ m => absurd m List.not_mem_nil), .nil, .inl ⟨rfl, rfl⟩, ?_, Nat.le_refl _, Nat.le_refl _, (fun _ m => absurd m List.not_mem_nil), by decide, fun _ z => by cases z⟩
    · rw [upd_same]
      exact congrArg (fun z => some (HO.ins C dx z)) put_new
    · rw [upd_ne (Ne.symm pw), upd_ne (Ne.symm pw), upd_ne (Ne.symm pw), upd_ne wb, upd_ne (Ne.symm pw), upd_same]
    · rw [upd_ne (Ne.symm pb), upd_ne (Ne.symm pb), upd_ne (Ne.symm pb), upd_same]
      rfl
    · exact kp_base (kp_base (kp_base (kp_base (kp_base (kp_base k0 h1) n0) h2) n0) n0) n0
/-! ### put -/
def spPut (C : Addr) : Sp := fun vs H Q _ => ∃ p x d H0 N s, vs = [.ref p, x] ∧ Rd C H0 H p N s ∧ N ≤ 1000000 ∧ (∀ S, Da S H x d) ∧ ∀ H', Rd C H0 H' p (N + 1) (s.put d) → Q (.bl true) H'
theorem ok_put {f C : Addr} {fd : FuncData} {k : Nat} (F : Fun K "put" "TreeReading.put" s_put f fd) (R : Rc K C) : FnOk P w K mg base CX0 (k + 1) f fd ["self", "tree"] (spPut C) := by
  refine F.ok sc_put (fun vs H Q E h => ?_) (fun cdv A outer s H vs Q E hr h => ?_)
  · obtain ⟨_, _, _, _, _, _, rfl, _⟩ := h
    rfl
  · obtain ⟨p, x, d, H0, N, s, rfl, ⟨dx, lw, lb, bs, dv, r⟩, hN, hx, q⟩ := h
    refine ⟨_, (pss_cons (ps_set (i := 2) sc_put.nd rfl (.inl rfl) (pe_ifExp (pt_truth (pe_fld (pv 0) rfl) (fun _ => rfl)) (pe_ix ix_seq (pe_fld (pv 0) rfl) (pe_un un_neg pe_int) (fun _ _ => rfl)) (pe_fld (pv 0) rfl)))
      (pss_cons (ps_expr (pe_bm PySem.F.plainAttrs_list PySem.F.slot_list_append PySem.F.type_list_append mt_append (pv 2) (pa_cons (pv 1) pa_nil)))
      (pss_one (ps_ret pe_bl)))), ?_⟩
    have mN : N < sizeLine := by rw [sizeLine_eq]; omega
    refine ⟨.ref p, rfl, p, C, dx, _, _, rfl, r.ob, R.cl, R.n2, rf_begun, (!(bs.reverse.map V.ref).isEmpty), .inl ⟨_, sqL r.begun, rfl⟩, ?_⟩
    cases hst : s.stack with
    | nil =>
      have hb : bs = [] := by
        have := r.stk
        rw [hst] at this
        cases this
        rfl
      rw [hb]
      refine ite2 (fun z => by cases z) fun _ => ?_
      obtain ⟨ws, ew, hws⟩ := r.whole
      have lws : ws.length = s.whole.length := (hws []).len
      refine ⟨.ref p, rfl, p, C, dx, _, _, rfl, r.ob, R.cl, R.n1, rf_whole, ?_⟩
      refine ⟨.ref lw, rfl, .inl ⟨rfl, _, sqL ew⟩, x, rfl, lw, ws, x, rfl, rfl, ew, by have := r.bw; omega, ?_⟩
      have k : Kp [lw] H (upd H lw (.lst (ws ++ [x]))) := kp_set ew rfl
      have np : p ∉ [lw] := fun m => r.p_ne ew (List.mem_singleton.mp m)
      have nlb : lb ∉ [lw] := fun m => r.ne (List.mem_singleton.mp m).symm
      refine q _ ⟨dx, lw, lb, [], dv, ?_⟩
      have ep : s.put d = { s with whole := s.whole ++ [d] } := by
        unfold RS.put
        rw [hst]
      rw [ep]
      subst hb
      refine ⟨k _ _ r.ob (.inr np), r.np, ⟨_, upd_same, fun S => DaL.snoc (DaL.any k hws S) (Da.any k hx S)⟩, r.nw, k _ _ r.begun (.inr nlb), r.nb, r.ne, r.nd, r.fr, ?_, ?_, kp_base r.kp r.nw, ?_, Nat.le_succ_of_le r.bs_, fun ds m => Nat.le_succ_of_le (r.bi ds m), r.bl, r.bd⟩
      · show Paired _ [] s.stack
        rw [hst]
        exact .nil
      · refine r.dig.imp id fun ⟨ld, ms, h1, h2, h3, h4, h5, h6⟩ => ⟨ld, ms, h1, k _ _ h2 (.inr fun m => h5 (List.mem_singleton.mp m)), h3, h4, h5, h6⟩
      · show (s.whole ++ [d]).length ≤ N + 1
        rw [List.length_append]
        exact Nat.succ_le_succ r.bw
    | cons y st =>
      have hp := r.stk
      rw [hst] at hp
      cases hp with
      | @cons b _ bs' _ hb hrest =>
        obtain ⟨xs, eb, hxs⟩ := hb
        have ne1 : (((b :: bs').reverse.map V.ref).isEmpty) = false := by
          rw [List.reverse_cons, List.map_append]
          cases (bs'.reverse.map V.ref) <;> rfl
        rw [ne1]
        refine ite2 (fun _ => ?_) fun z => absurd rfl z
        refine ⟨.ref p, rfl, p, C, dx, _, _, rfl, r.ob, R.cl, R.n2, rf_begun, ?_⟩
        have lx : xs.length = y.length := (hxs []).len
        have hyN : y.length ≤ N := r.bi y (by rw [hst]; exact List.mem_cons_self)
        have at1 : atI ((b :: bs').reverse.map V.ref) (-1) = some (.ref b) := by
          rw [List.reverse_cons, List.map_append]
          show (ixN _ (-1)).bind _ = _
          have hl : ((bs'.reverse.map V.ref) ++ [V.ref b]).length = bs'.length + 1 := by
            rw [List.length_append, List.length_map, List.length_reverse]
            rfl
          show (ixN (((bs'.reverse.map V.ref) ++ [V.ref b]).length) (-1)).bind (fun j => ((bs'.reverse.map V.ref) ++ [V.ref b])[j]?) = _
          rw [hl]
          have : ixN (bs'.length + 1) (-1) = some bs'.length := by
            unfold ixN
            rw [if_neg (by omega), if_pos (by omega)]
            congr 1
            omega
          rw [this]
          show ((bs'.reverse.map V.ref) ++ [V.ref b])[bs'.length]? = _
          rw [List.getElem?_append_right (by simp)]
          simp
        have el := r.begun
        refine ⟨1, rfl, .inl ⟨lb, _, -1, _, rfl, rfl, sqL el, at1, ?_⟩⟩
        refine ⟨.ref b, rfl, .inl ⟨rfl, _, sqL eb⟩, x, rfl, b, xs, x, rfl, rfl, eb, by omega, ?_⟩
        have k : Kp [b] H (upd H b (.lst (xs ++ [x]))) := kp_set eb rfl
        have np : p ∉ [b] := fun m => r.p_ne eb (List.mem_singleton.mp m)
        obtain ⟨f1, f2, f3⟩ := r.fr b List.mem_cons_self
        obtain ⟨nd1, nd2⟩ := List.nodup_cons.mp r.nd
        refine q _ ⟨dx, lw, lb, b :: bs', dv, ?_⟩
        have ep : s.put d = { s with stack := (y ++ [d]) :: st } := by
          unfold RS.put
          rw [hst]
        rw [ep]
        refine ⟨k _ _ r.ob (.inr np), r.np, r.whole.any k (fun m => f1 (List.mem_singleton.mp m).symm), r.nw, k _ _ r.begun (.inr fun m => f2 (List.mem_singleton.mp m).symm), r.nb, r.ne, r.nd, r.fr, ?_, ?_, kp_base r.kp f3, Nat.le_succ_of_le r.bw, ?_, ?_, r.bl, r.bd⟩
        · exact .cons ⟨_, upd_same, fun S => DaL.snoc (DaL.any k hxs S) (Da.any k hx S)⟩ (stk_any k (fun b' m z => nd1 (by rw [← List.mem_singleton.mp z]; exact m)) hrest)
        · refine r.dig.imp id fun ⟨ld, ms, h1, h2, h3, h4, h5, h6, h7⟩ => ⟨ld, ms, h1, k _ _ h2 (.inr fun m => h7 (by rw [List.mem_singleton.mp m]; exact List.mem_cons_self)), h3, h4, h5, h6, h7⟩
        · have := r.bs_
          rw [hst] at this
          show st.length + 1 ≤ N + 1
          have h : st.length + 1 ≤ N := this
          omega
        · intro ds m
          rcases List.mem_cons.mp m with m | m
          · rw [m, List.length_append]
            show y.length + 1 ≤ N + 1
            omega
          · exact Nat.le_succ_of_le (r.bi ds (by rw [hst]; exact List.mem_cons_of_mem _ m))
end
end K18
set_option Elab.async false
set_option linter.all false
set_option maxRecDepth 100000
set_option maxHeartbeats 4000000
namespace K18
open PySem PySem.Spec PyProof.Rows L2 Kb
theorem eqI {i j : Int} (e : decide (V.int i = V.int j) = true) : i = j := by
  have := of_decide_eq_true e
  injection this
theorem neI {i j : Int} (e : ¬ decide (V.int i = V.int j) = true) : i ≠ j := fun z => e (by rw [z]; exact decide_eq_true rfl)
theorem no_put : (("put" : Str) == "whole") = false ∧ (("put" : Str) == "begun") = false ∧ (("put" : Str) == "word") = false ∧ (("put" : Str) == "digits") = false := by decide +kernel
theorem no_letter : (("take_letter" : Str) == "whole") = false ∧ (("take_letter" : Str) == "begun") = false ∧ (("take_letter" : Str) == "word") = false ∧ (("take_letter" : Str) == "digits") = false := by decide +kernel
theorem no_digit : (("take_digit" : Str) == "whole") = false ∧ (("take_digit" : Str) == "begun") = false ∧ (("take_digit" : Str) == "word") = false ∧ (("take_digit" : Str) == "digits") = false := by decide +kernel
theorem no_plain : (("take_plain" : Str) == "whole") = false ∧ (("take_plain" : Str) == "begun") = false ∧ (("take_plain" : Str) == "word") = false ∧ (("take_plain" : Str) == "digits") = false := by decide +kernel
theorem no_take : (("take" : Str) == "whole") = false ∧ (("take" : Str) == "begun") = false ∧ (("take" : Str) == "word") = false ∧ (("take" : Str) == "digits") = false := by decide +kernel
/-- what a step promises -/
def spStep (C : Addr) (pre : RS → Int → Prop) (f : RS → Int → Option RS) : Sp := fun vs H Q _ => ∃ p c H0 N s, vs = [.ref p, .int c] ∧ Rd C H0 H p N s ∧ N ≤ 1000000 ∧ 0 ≤ c ∧ c ≤ 63 ∧ pre s c ∧ (∀ s', f s c = some s' → ∀ H', Rd C H0 H' p (N + 1) s' → Q (.bl true) H') ∧ (f s c = none → ∀ H', Kp [] H0 H' → Q (.bl false) H')
theorem letters_at : ∀ n : Fin 26, ("abcdefghijklmnopqrstuvwxyz" : Str).cps.toList[n.val]? = some (97 + n.val) := by decide +kernel
theorem letters_ix {c : Int} (h1 : 1 ≤ c % 32) (h2 : c % 32 ≤ 26) : atI ("abcdefghijklmnopqrstuvwxyz" : Str).cps.toList (c % 32 - 1) = some (let1 (c % 32)) := by
  obtain ⟨n, hn⟩ : ∃ n : Nat, c % 32 - 1 = n := ⟨(c % 32 - 1).toNat, by omega⟩
  rw [hn]
  have := letters_at ⟨n, by omega⟩
  refine (atI_at this).trans ?_
  congr 1
  unfold let1
  show 97 + n = _
  omega
theorem wStr_snoc (w : List Nat) (c : Nat) : wStr w ++ (⟨#[c]⟩ : Str) = wStr (w ++ [c]) := by
  show (⟨w.toArray ++ #[c]⟩ : Str) = ⟨(w ++ [c]).toArray⟩
  congr 1
  simp
theorem wStr_len (w : List Nat) : (wStr w).length = w.length := by
  show w.toArray.size = w.length
  simp
theorem upd2 {H : Hp} {p : Addr} {a b : HO} : upd (upd H p a) p b = upd H p b := by
  funext x
  by_cases hx : x = p
  · rw [hx, upd_same, upd_same]
  · rw [upd_ne hx, upd_ne hx, upd_ne hx]
section
variable {P : Program} {w : World} {K : PySem.W.Frag} {mg : Str → Option Value} {base : Heap}
/-! ### take_plain -/
theorem ok_plain {f C f1 : Addr} {fd fd1 : FuncData} {k : Nat} (F : Fun K "take_plain" "TreeReading.take_plain" s_plain f fd) (R : Rc K C) (G : Gn mg)
    (M1 : Meth K C "put" f1) (b1 : Binds K fd1 ["self", "tree"] []) (G1 : FnOk P w K mg base CX0 (k + 1) f1 fd1 ["self", "tree"] (spPut C)) : FnOk P w K mg base CX0 (k + 2) f fd ["self", "cell"] (spStep C (fun _ _ => True) stepPlain) := by
  refine F.ok sc_plain (fun vs H Q E h => ?_) (fun cdv A outer s H vs Q E hr h => ?_)
  · obtain ⟨_, _, _, _, _, rfl, _⟩ := h
    rfl
  · obtain ⟨p, c, H0, N, s, rfl, hR, hN, c0, c1, _, q1, q2⟩ := h
    refine ⟨_, (pss_cons (ps_if (pt_cmpR op_eq (pv 1) (pe_gi (by rfl) G.NONE) (nomark _)) (pss_one (ps_ret (pe_meth (pv 0) R.cl M1 G1 hr b1 .nil pass0 (pa_cons pe_non pa_nil)))) pss_nil)
      (pss_cons (ps_if (pt_cmpR op_eq (pv 1) (pe_gi (by rfl) G.EMPTY) (nomark _)) (pss_one (ps_ret (pe_meth (pv 0) R.cl M1 G1 hr b1 .nil pass0 (pa_cons pe_str pa_nil)))) pss_nil)
      (pss_cons (ps_if (PW.pt (pw_or (pt_cmpR op_eq (pv 1) (pe_gi (by rfl) G.TRUE) (nomark _)) (pw_or1 (pt_cmpR op_eq (pv 1) (pe_gi (by rfl) G.FALSE) (nomark _))))) (pss_one (ps_ret (pe_meth (pv 0) R.cl M1 G1 hr b1 .nil pass0 (pa_cons (pe_cmpR op_eq (pv 1) (pe_gi (by rfl) G.TRUE) (nomark _)) pa_nil)))) pss_nil)
      (pss_one (ps_ret pe_bl))))), ?_⟩
    obtain ⟨dx, lw, lb, bs, dv, r⟩ := id hR
    have put : ∀ (x : V) (d : PyData), (∀ S, Da S H x d) → stepPlain s c = some (s.put d) → spPut C [.ref p, x] H Q E0 := fun x d hd e => ⟨p, x, d, H0, N, s, rfl, hR, hN, hd, fun H' h' => q1 _ e H' h'⟩
    refine ⟨.int c, rfl, rfl, _, rfl, ite2 (fun e => ?_) (fun e => ?_)⟩
    · have e := eqI e
      exact ⟨.ref p, rfl, p, dx, _, rfl, r.ob, rf_no no_put, put .non .none (fun _ => .non) (by unfold stepPlain; rw [if_pos e])⟩
    · have e1 := neI e
      refine ⟨.int c, rfl, rfl, _, rfl, ite2 (fun e => ?_) (fun e => ?_)⟩
      · have e := eqI e
        exact ⟨.ref p, rfl, p, dx, _, rfl, r.ob, rf_no no_put, put (.str (wStr [])) (.str (wStr [])) (fun _ => .str _) (by unfold stepPlain; rw [if_neg e1, if_pos e])⟩
      · have e2 := neI e
        refine ⟨.int c, rfl, rfl, _, rfl, ite2 (fun e => ?_) (fun e => ?_)⟩
        · have e := eqI e
          refine ite2 (fun _ => ?_) fun z => absurd rfl z
          refine ⟨.ref p, rfl, p, dx, _, rfl, r.ob, rf_no no_put, .int c, rfl, rfl, ?_⟩
          refine put _ (.bool (decide (c = 31))) (fun _ => ?_) (by unfold stepPlain; rw [if_neg e1, if_neg e2, if_pos (.inl e)])
          rw [e]
          exact .bl _
        · have e3 := neI e
          refine ⟨.int c, rfl, rfl, _, rfl, ite2 (fun e => ?_) (fun e => ?_)⟩
          · have e := eqI e
            refine ⟨.ref p, rfl, p, dx, _, rfl, r.ob, rf_no no_put, .int c, rfl, rfl, ?_⟩
            refine put _ (.bool (decide (c = 31))) (fun _ => ?_) (by unfold stepPlain; rw [if_neg e1, if_neg e2, if_pos (.inr e)])
            rw [e]
            exact .bl _
          · have e4 := neI e
            refine q2 (by unfold stepPlain; rw [if_neg e1, if_neg e2, if_neg (fun z => z.elim e3 e4)]) H r.kp
/-! ### take_letter -/
theorem ok_letter {f C f1 : Addr} {fd fd1 : FuncData} {k : Nat} (F : Fun K "take_letter" "TreeReading.take_letter" s_letter f fd) (R : Rc K C) (G : Gn mg) (T : Bi mg)
    (M1 : Meth K C "put" f1) (b1 : Binds K fd1 ["self", "tree"] []) (G1 : FnOk P w K mg base CX0 (k + 1) f1 fd1 ["self", "tree"] (spPut C)) : FnOk P w K mg base CX0 (k + 2) f fd ["self", "cell"] (spStep C (fun s c => isLetter c = true ∧ s.digits = none) stepLetter) := by
  refine F.ok sc_letter (fun vs H Q E h => ?_) (fun cdv A outer s H vs Q E hr h => ?_)
  · obtain ⟨_, _, _, _, _, rfl, _⟩ := h
    rfl
  · obtain ⟨p, c, H0, N, s, rfl, hR, hN, c0, c1, ⟨hl, hdn⟩, q1, q2⟩ := h
    refine ⟨_, (pss_cons (ps_fldaug (pv 0) (pe_ix ix_str (pe_gs (by rfl) G.LETTERS) (pe_op op_sub (pe_op op_mod (pv 1) (pe_gi (by rfl) G.MARK)) pe_int) (fun _ _ => rfl)) in_addS)
      (pss_cons (ps_if (pt_cmpR op_lt (pv 1) (pe_gi (by rfl) G.MARK) (nomark _)) (pss_one (ps_ret (pe_cmpR op_lt (pe_callB call_len (by rfl) T.m_len (by decide +kernel) (pa_cons (pe_fld (pv 0) rfl) pa_nil)) (pe_gi (by rfl) G.MOST_LETTERS) (nomark _)))) pss_nil)
      (pss_cons (ps_set (i := 2) sc_letter.nd rfl (.inl rfl) (pe_fld (pv 0) rfl))
      (pss_cons (ps_fld (pv 0) pe_str rfl)
      (pss_one (ps_ret (pe_meth (pv 0) R.cl M1 G1 hr b1 .nil pass0 (pa_cons (pv 2) pa_nil)))))))), ?_⟩
    obtain ⟨dx, lw, lb, bs, dv, r⟩ := id hR
    have hm : 1 ≤ c % 32 ∧ c % 32 ≤ 26 := by
      unfold isLetter at hl
      simp at hl
      omega
    have hwl := r.bl
    refine ⟨.ref p, rfl, p, C, dx, _, _, rfl, r.ob, R.cl, R.n3, rf_word, .int c, rfl, c, 32, rfl, rfl, (show (0 : Int) < 32 by decide), _, 1, rfl, rfl, _, _, _, rfl, rfl, small (by decide), letters_ix hm.1 hm.2, _, _, rfl, rfl, ?_, dx, _, r.ob, (show 4 < 1000 by decide), ?_⟩
    · rw [wStr_len, sizeLine_eq]
      show s.word.length + 1 ≤ _
      omega
    rw [wStr_snoc, put_word]
    obtain ⟨w', hw'⟩ : ∃ w', w' = s.word ++ [let1 (c % 32)] := ⟨_, rfl⟩
    have lw' : w'.length = s.word.length + 1 := by rw [hw', List.length_append]; rfl
    rw [← hw']
    refine ⟨.int c, rfl, c, 32, rfl, rfl, _, rfl, ite2 (fun e => ?_) (fun e => ?_)⟩
    · have e : c < 32 := of_decide_eq_true e
      refine ⟨.ref p, rfl, p, C, dx, _, _, rfl, upd_same, R.cl, R.n3, rf_word, _, _, rfl, ⟨by rw [wStr_len, sizeLine_eq]; omega, rfl⟩, _, 8, rfl, rfl, ?_⟩
      rw [wStr_len]
      have ev : stepLetter s c = if w'.length < 8 then some { s with word := w' } else none := by
        unfold stepLetter
        rw [if_pos e, ← hw']
      by_cases h8 : w'.length < 8
      · rw [if_pos h8] at ev
        show Q (.bl (decide ((w'.length : Int) < 8))) _
        rw [show decide ((w'.length : Int) < 8) = true from decide_eq_true (by omega)]
        refine q1 _ ev _ ⟨dx, lw, lb, bs, dv, ?_⟩
        have := (r.mono (Nat.le_succ N)).setP (dv' := dv) w' s.digits h8 r.bd r.dig
        exact this
      · rw [if_neg h8] at ev
        show Q (.bl (decide ((w'.length : Int) < 8))) _
        rw [show decide ((w'.length : Int) < 8) = false from decide_eq_false (by omega)]
        exact q2 ev _ (kp_base r.kp r.np)
    · have e : ¬ c < 32 := fun z => e (decide_eq_true z)
      refine ⟨.ref p, rfl, p, C, dx, _, _, rfl, upd_same, R.cl, R.n3, rf_word, ?_⟩
      refine ⟨.ref p, rfl, p, C, dx, _, rfl, upd_same, R.cl, R.n3, (show 4 < 1000 by decide), ?_⟩
      rw [show (("" : Str)) = wStr [] from rfl, put_word, upd2]
      have ev : stepLetter s c = some (({ s with word := [] } : RS).put (.str (wStr w'))) := by
        unfold stepLetter
        rw [if_neg e, ← hw']
      have r2 := r.setP (dv' := dv) [] s.digits (by decide) r.bd r.dig
      refine ⟨.ref p, rfl, p, dx, _, rfl, r2.ob, rf_no no_put, .str (wStr w'), rfl, ?_⟩
      exact ⟨p, _, .str (wStr w'), H0, N, { s with word := [] }, rfl, ⟨dx, lw, lb, bs, dv, r2⟩, hN, fun _ => .str _, fun H' h' => q1 _ ev H' h'⟩
end
end K18
set_option Elab.async false
set_option linter.all false
set_option maxRecDepth 100000
set_option maxHeartbeats 4000000
namespace K18
open PySem PySem.Spec PyProof.Rows L2 Kb
theorem RdAt.setL {C : Addr} {H0 H : Hp} {p : Addr} {N : Nat} {s : RS} {dx lw lb : Addr} {bs : List Addr} {ld : Addr} {ns : List Int} (r : RdAt C H0 H p N s dx lw lb bs (.ref ld)) (e : H ld = some (.lst (ns.map .int))) (n0 : H0 ld = none) (n1 : ld ≠ lw) (n2 : ld ≠ lb) (n3 : ld ∉ bs)
    (ms : List Int) (hm : ms.length ≤ 3 ∧ ∀ d ∈ ms, 0 ≤ d ∧ d ≤ 31) : RdAt C H0 (upd H ld (.lst (ms.map .int))) p N { s with digits := some ms } dx lw lb bs (.ref ld) := by
  have k : Kp [ld] H (upd H ld (.lst (ms.map .int))) := kp_set e rfl
  refine ⟨k _ _ r.ob (.inr fun m => r.p_ne e (List.mem_singleton.mp m)), r.np, r.whole.any k (fun m => n1 (List.mem_singleton.mp m).symm), r.nw, k _ _ r.begun (.inr fun m => n2 (List.mem_singleton.mp m).symm), r.nb, r.ne, r.nd, r.fr, stk_any k (fun b m z => n3 (by rw [← List.mem_singleton.mp z]; exact m)) r.stk, .inr ⟨ld, ms, rfl, upd_same, rfl, n0, n1, n2, n3⟩, kp_base r.kp n0, r.bw, r.bs_, r.bi, r.bl, fun ns e => by cases e; exact hm⟩
def digF (s : RS) (c : Int) : Option RS := match s.digits with
  | some ds => stepDigit s ds c
  | none => none
theorem num_bound : ∀ (ds : List Int) (n : Int) (b : Int), 0 ≤ n → n ≤ b → (∀ d ∈ ds, 0 ≤ d ∧ d ≤ 31) → 0 ≤ ds.foldl (fun n d => n * 32 + d) n
  | [], n, b, h0, h1, h => h0
  | d :: ds, n, b, h0, h1, h => num_bound ds (n * 32 + d) (b * 32 + 31) (by have := h d List.mem_cons_self; omega) (by have := h d List.mem_cons_self; omega) fun x m => h x (List.mem_cons_of_mem _ m)
theorem num_le : ∀ (ds : List Int), ds.length ≤ 3 → (∀ d ∈ ds, 0 ≤ d ∧ d ≤ 31) → ∀ i, i ≤ ds.length → 0 ≤ numOf (ds.take i) ∧ numOf (ds.take i) ≤ 32767 := by
  intro ds h1 h2 i hi
  match ds, h1, h2 with
  | [], _, _ => 
    rw [List.take_nil]
    exact ⟨Int.le_refl _, by decide⟩
  | [a], _, h => 
    have ha := h a (by simp)
    have hi : i ≤ 1 := hi
    rcases (by omega : i = 0 ∨ i = 1) with rfl | rfl
    · exact ⟨Int.le_refl _, (show (0 : Int) ≤ 32767 by decide)⟩
    · show 0 ≤ 0 * 32 + a ∧ 0 * 32 + a ≤ 32767
      omega
  | [a, b], _, h => 
    have ha := h a (by simp)
    have hb := h b (by simp)
    have hi : i ≤ 2 := hi
    rcases (by omega : i = 0 ∨ i = 1 ∨ i = 2) with rfl | rfl | rfl
    · exact ⟨Int.le_refl _, (show (0 : Int) ≤ 32767 by decide)⟩
    · show 0 ≤ 0 * 32 + a ∧ 0 * 32 + a ≤ 32767
      omega
    · show 0 ≤ (0 * 32 + a) * 32 + b ∧ (0 * 32 + a) * 32 + b ≤ 32767
      omega
  | [a, b, c], _, h => 
    have ha := h a (by simp)
    have hb := h b (by simp)
    have hc := h c (by simp)
    have hi : i ≤ 3 := hi
    rcases (by omega : i = 0 ∨ i = 1 ∨ i = 2 ∨ i = 3) with rfl | rfl | rfl | rfl
    · exact ⟨Int.le_refl _, (show (0 : Int) ≤ 32767 by decide)⟩
    · show 0 ≤ 0 * 32 + a ∧ 0 * 32 + a ≤ 32767
      omega
    · show 0 ≤ (0 * 32 + a) * 32 + b ∧ (0 * 32 + a) * 32 + b ≤ 32767
      omega
    · show 0 ≤ ((0 * 32 + a) * 32 + b) * 32 + c ∧ ((0 * 32 + a) * 32 + b) * 32 + c ≤ 32767
      omega
theorem num_snoc (ds : List Int) (i : Nat) {d : Int} (e : ds[i]? = some d) : numOf (ds.take (i + 1)) = numOf (ds.take i) * 32 + d := by
  unfold numOf
  rw [List.take_add_one, e, List.foldl_append]
  rfl
section
variable {P : Program} {w : World} {K : PySem.W.Frag} {mg : Str → Option Value} {base : Heap}
/-! ### take_digit -/
theorem ok_digit {f C f1 : Addr} {fd fd1 : FuncData} {k : Nat} (F : Fun K "take_digit" "TreeReading.take_digit" s_digit f fd) (R : Rc K C) (G : Gn mg) (T : Bi mg)
    (M1 : Meth K C "put" f1) (b1 : Binds K fd1 ["self", "tree"] []) (G1 : FnOk P w K mg base CX0 (k + 1) f1 fd1 ["self", "tree"] (spPut C)) : FnOk P w K mg base CX0 (k + 2) f fd ["self", "cell"] (spStep C (fun s _ => ∃ ns, s.digits = some ns ∧ ns.length ≤ 2) digF) := by
  refine F.ok sc_digit (fun vs H Q E h => ?_) (fun cdv A outer s H vs Q E hr h => ?_)
  · obtain ⟨_, _, _, _, _, rfl, _⟩ := h
    rfl
  · obtain ⟨p, c, H0, N, s, rfl, hR, hN, c0, c1, ⟨ns, hns, hn2⟩, q1, q2⟩ := h
    refine ⟨_, (pss_cons (ps_expr (pe_bm PySem.F.plainAttrs_list PySem.F.slot_list_append PySem.F.type_list_append mt_append (pe_fld (pv 0) rfl) (pa_cons (pe_op op_mod (pv 1) (pe_gi (by rfl) G.MARK)) pa_nil)))
      (pss_cons (ps_if (pt_cmpR op_ge (pv 1) (pe_gi (by rfl) G.MARK) (nomark _)) (pss_one (ps_ret (pe_and (pe_cmpR op_lt (pe_callB call_len (by rfl) T.m_len (by decide +kernel) (pa_cons (pe_fld (pv 0) rfl) pa_nil)) (pe_gi (by rfl) G.MOST_DIGITS) (nomark _))
          (pe_one (pe_or (pe_cmpR op_gt (pv 1) (pe_gi (by rfl) G.MARK) (nomark _)) (pe_one (pe_cmpR op_gt (pe_callB call_len (by rfl) T.m_len (by decide +kernel) (pa_cons (pe_fld (pv 0) rfl) pa_nil)) pe_int (nomark _)))))))) pss_nil)
      (pss_cons (ps_set (i := 2) sc_digit.nd rfl (.inl rfl) pe_int)
      (pss_cons (ps_for PassesOwn.never rfl (pi_list (pe_fld (pv 0) rfl)) (pg_name (i := 3) sc_digit.nd rfl (.inl rfl)) (pss_one (ps_set (i := 2) sc_digit.nd rfl (.inl rfl) (pe_op op_add (pe_op op_mul (pv 2) pe_int) (pv 3)))))
      (pss_cons (ps_fld (pv 0) pe_non rfl)
      (pss_one (ps_ret (pe_meth (pv 0) R.cl M1 G1 hr b1 .nil pass0 (pa_cons (pv 2) pa_nil))))))))), ?_⟩
    obtain ⟨dx, lw, lb, bs, dv, r⟩ := id hR
    obtain ⟨ld, ms, rfl, el, hms, n0, n1, n2, n3⟩ : ∃ ld ns, dv = .ref ld ∧ H ld = some (.lst (ns.map .int)) ∧ s.digits = some ns ∧ H0 ld = none ∧ ld ≠ lw ∧ ld ≠ lb ∧ ld ∉ bs := by
      rcases r.dig with ⟨_, z⟩ | z
      · rw [hns] at z
        cases z
      · exact z
    obtain rfl : ms = ns := by
      rw [hns] at hms
      cases hms
      rfl
    refine ⟨.ref p, rfl, p, C, dx, _, _, rfl, r.ob, R.cl, R.n4, rf_digits, .inl ⟨rfl, _, sqL el⟩, .int c, rfl, c, 32, rfl, rfl, (show (0 : Int) < 32 by decide), ld, _, _, rfl, rfl, el, by rw [List.length_map, sizeLine_eq]; omega, ?_⟩
    have hev : digF s c = stepDigit s ms c := by
      unfold digF
      rw [hns]
    obtain ⟨ds, hds⟩ : ∃ ds, ds = ms ++ [c % 32] := ⟨_, rfl⟩
    have lds : ds.length = ms.length + 1 := by rw [hds, List.length_append]; rfl
    have e1 : ms.map V.int ++ [V.int (c % 32)] = ds.map V.int := by rw [hds, List.map_append]; rfl
    rw [e1]
    have hb : ds.length ≤ 3 ∧ ∀ d ∈ ds, 0 ≤ d ∧ d ≤ 31 := ⟨by omega, fun d m => by
      rw [hds] at m
      rcases List.mem_append.mp m with m | m
      · exact (r.bd ms hns).2 d m
      · rw [List.mem_singleton.mp m]
        omega⟩
    have r1 := r.setL el n0 n1 n2 n3 ds hb
    have len1 : LenV K (.ref ld) (upd H ld (.lst (ds.map .int))) ds.length := .inl ⟨_, sqL upd_same, by rw [List.length_map]⟩
    refine ⟨.int c, rfl, c, 32, rfl, rfl, _, rfl, ite2 (fun e => ?_) (fun e => ?_)⟩
    · have e : 32 ≤ c := of_decide_eq_true e
      have ev : digF s c = if ds.length < 3 ∧ (32 < c ∨ 1 < ds.length) then some { s with digits := some ds } else none := by
        rw [hev]
        unfold stepDigit
        rw [if_pos e, ← hds]
      have yes : ds.length < 3 ∧ (32 < c ∨ 1 < ds.length) → Q (.bl true) (upd H ld (.lst (ds.map .int))) := fun h => by
        rw [if_pos h] at ev
        exact q1 _ ev _ ⟨dx, lw, lb, bs, _, r1.mono (Nat.le_succ N)⟩
      have no : ¬ (ds.length < 3 ∧ (32 < c ∨ 1 < ds.length)) → Q (.bl false) (upd H ld (.lst (ds.map .int))) := fun h => by
        rw [if_neg h] at ev
        exact q2 ev _ (kp_base r.kp n0)
      refine ⟨.ref p, rfl, p, C, dx, _, _, rfl, r1.ob, R.cl, R.n4, rf_digits, _, _, rfl, len1, _, 3, rfl, rfl, _, rfl, ?_⟩
      cases h3 : decide ((ds.length : Int) < 3) with
      | false =>
        have h3 := of_decide_eq_false h3
        exact no fun z => h3 (by omega)
      | true =>
        have h3 := of_decide_eq_true h3
        refine ⟨.int c, rfl, c, 32, rfl, rfl, _, rfl, ?_⟩
        cases h4 : decide (c > 32) with
        | true =>
          have h4 : 32 < c := of_decide_eq_true h4
          exact yes ⟨by omega, .inl h4⟩
        | false =>
          have h4 : ¬ c > 32 := of_decide_eq_false h4
          refine ⟨.ref p, rfl, p, C, dx, _, _, rfl, r1.ob, R.cl, R.n4, rf_digits, _, _, rfl, len1, _, 1, rfl, rfl, ?_⟩
          by_cases h5 : 1 < ds.length
          · show Q (.bl (decide ((ds.length : Int) > 1))) _
            rw [decide_eq_true (show (ds.length : Int) > 1 by omega)]
            exact yes ⟨by omega, .inr h5⟩
          · show Q (.bl (decide ((ds.length : Int) > 1))) _
            rw [decide_eq_false (show ¬ (ds.length : Int) > 1 by omega)]
            exact no fun z => z.2.elim (fun y => h4 y) h5
    · have e : ¬ 32 ≤ c := fun z => e (decide_eq_true z)
      have ev : digF s c = some (({ s with digits := none } : RS).put (.int (numOf ds))) := by
        rw [hev]
        unfold stepDigit
        rw [if_neg e, ← hds]
      refine ⟨.ref p, rfl, p, C, dx, _, _, rfl, r1.ob, R.cl, R.n4, rf_digits, ld, rfl, ⟨_, sqL upd_same⟩, ?_⟩
      refine for_list (xs := ds.map V.int) (fun i σ H' => ∃ y3, σ = [some (.ref p), some (.int c), some (.int (numOf (ds.take i))), y3] ∧ H' = upd H ld (.lst (ds.map .int))) ⟨_, rfl, rfl⟩ (fun i σ H' _ ⟨_, _, e⟩ => by rw [e]; exact sqL upd_same) ?_ ?_
      · rintro i x σ H' ex ⟨y3, rfl, rfl⟩
        obtain ⟨d, hd, rfl⟩ : ∃ d, ds[i]? = some d ∧ V.int d = x := by
          rw [List.getElem?_map] at ex
          cases q : ds[i]? with
          | none => rw [q] at ex; cases ex
          | some d => rw [q] at ex; cases ex; exact ⟨d, rfl, rfl⟩
        have hi : i < ds.length := by
          have := List.getElem?_eq_some_iff.mp hd
          exact this.1
        have hb2 := num_le ds hb.1 hb.2 i (by omega)
        refine ⟨.int _, rfl, _, 32, rfl, rfl, .inr ⟨by decide, by decide⟩, .int d, rfl, _, d, rfl, rfl, ?_⟩
        refine ⟨some (.int d), ?_, rfl⟩
        rw [num_snoc ds i hd]
        rfl
      · rintro σ H' ⟨y3, rfl, rfl⟩
        rw [List.length_map, List.take_length]
        refine ⟨.ref p, rfl, p, C, dx, _, rfl, r1.ob, R.cl, R.n4, (show 4 < 1000 by decide), ?_⟩
        rw [put_digits]
        have r2 := r1.setP (dv' := .non) s.word none r.bl (fun _ z => by cases z) (.inl ⟨rfl, rfl⟩)
        refine ⟨.ref p, rfl, p, dx, _, rfl, r2.ob, rf_no no_put, .int (numOf ds), rfl, ?_⟩
        exact ⟨p, _, .int (numOf ds), H0, N, { s with digits := none }, rfl, ⟨dx, lw, lb, bs, _, r2⟩, hN, fun _ => .int _, fun H' h' => q1 _ ev H' h'⟩
end
end K18
set_option Elab.async false
set_option linter.all false
set_option maxRecDepth 100000
set_option maxHeartbeats 4000000
namespace K18
open PySem PySem.Spec PyProof.Rows L2 Kb
def Ok (s : RS) : Prop := ∀ ns, s.digits = some ns → ns.length ≤ 2
theorem put_digits_eq (s : RS) (d : PyData) : (s.put d).digits = s.digits := by
  unfold RS.put
  split <;> rfl
theorem put_Ok {s : RS} (d : PyData) (h : Ok s) : Ok (s.put d) := fun ns e => h ns (by rw [← put_digits_eq s d]; exact e)
theorem none_Ok {s : RS} (h : s.digits = none) : Ok s := fun ns e => by rw [h] at e; cases e
theorem step_Ok {s s' : RS} {c : Int} (h : Ok s) (e : step s c = some s') : Ok s' := by
  unfold step at e
  split at e
  · split at e
    · rename_i ds hd
      unfold stepDigit at e
      split at e
      · split at e
        · rename_i h2
          cases e
          intro ns en
          cases en
          have := h2.1
          omega
        · cases e
      · cases e
        exact put_Ok _ (none_Ok rfl)
    · rename_i hd
      split at e
      · unfold stepLetter at e
        split at e
        · split at e
          · cases e
            exact none_Ok hd
          · cases e
        · cases e
          exact put_Ok _ (none_Ok hd)
      · split at e
        · split at e
          · cases e
            intro ns en
            cases en
            exact Nat.zero_le _
          · split at e
            · split at e
              · cases e
                exact none_Ok hd
              · cases e
            · split at e
              · split at e
                · cases e
                · cases e
                  exact put_Ok _ (none_Ok hd)
              · unfold stepPlain at e
                split at e
                · cases e
                  exact put_Ok _ (none_Ok hd)
                · split at e
                  · cases e
                    exact put_Ok _ (none_Ok hd)
                  · split at e
                    · cases e
                      exact put_Ok _ (none_Ok hd)
                    · cases e
        · cases e
  · cases e
theorem isLetter_iff {c : Int} : isLetter c = true ↔ (1 ≤ c ∧ c ≤ 26) ∨ (33 ≤ c ∧ c ≤ 58) := by
  unfold isLetter
  simp
theorem word_ne {w : List Nat} : ((wStr w).length : Int) != 0 → w ≠ [] := fun h z => by
  rw [z] at h
  cases h
theorem LsAt.len {H : Hp} {b : Addr} {ds : List PyData} : LsAt H b ds → ∃ xs, H b = some (.lst xs) ∧ xs.length = ds.length := fun ⟨xs, e, h⟩ => ⟨xs, e, (h []).len⟩
theorem isEmpty_len {α β : Type} {xs : List α} {ys : List β} (h : xs.length = ys.length) : xs.isEmpty = ys.isEmpty := by
  cases xs <;> cases ys <;> first | rfl | cases h
theorem stk_len {H : Hp} : ∀ {bs : List Addr} {st : List (List PyData)}, Paired (LsAt H) bs st → bs.length = st.length
  | _, _, .nil => rfl
  | _, _, .cons _ r => congrArg (· + 1) (stk_len r)
def rLe : R2 := rI0 fun i j => .bl (decide (i ≤ j))
def rPl : R2 := rI0 fun i j => .int (i + j)
theorem letter_test {c : Int} {σ : L2.St} {H : Hp} {Qt : Bool → Hp → Prop} (h1 : σ[1]? = some (some (.int c))) (q : Qt (isLetter c) H) :
    tOr (tTest (tChain rLe rLe (tC (.int 1)) (tVar 1) (tC (.int 26)))) (tTest (tChain rLe rLe (tOp rPl (tC (.int 32)) (tC (.int 1))) (tVar 1) (tOp rPl (tC (.int 32)) (tC (.int 26))))) σ H Qt := by
  have two : ∀ Q2 : Bool → Hp → Prop, Q2 (decide (33 ≤ c) && decide (c ≤ 58)) H → tTest (tChain rLe rLe (tOp rPl (tC (.int 32)) (tC (.int 1))) (tVar 1) (tOp rPl (tC (.int 32)) (tC (.int 26)))) σ H Q2 := fun Q2 q2 => by
    refine ⟨32, 1, rfl, rfl, .int c, h1, _, c, rfl, rfl, _, rfl, ?_⟩
    show if decide (33 ≤ c) = true then _ else _
    cases h : decide (33 ≤ c) with
    | true =>
      rw [h] at q2
      exact ⟨32, 26, rfl, rfl, c, _, rfl, rfl, _, rfl, q2⟩
    | false =>
      rw [h] at q2
      exact ⟨_, rfl, q2⟩
  refine ⟨.int c, h1, 1, c, rfl, rfl, _, rfl, ?_⟩
  show if decide (1 ≤ c) = true then _ else _
  unfold isLetter at q
  cases h : decide (1 ≤ c) with
  | true =>
    rw [h] at q
    refine ⟨c, 26, rfl, rfl, _, rfl, ?_⟩
    cases h2 : decide (c ≤ 26) with
    | true =>
      rw [h2] at q
      exact q
    | false =>
      rw [h2] at q
      exact two _ q
  | false =>
    rw [h] at q
    exact ⟨_, rfl, two _ q⟩
section
variable {P : Program} {w : World} {K : PySem.W.Frag} {mg : Str → Option Value} {base : Heap}
/-! ### take -/
theorem ok_rtake {f C f1 f2 f3 f4 : Addr} {fd fd1 fd2 fd3 fd4 : FuncData} {k : Nat} (F : Fun K "take" "TreeReading.take" s_t_take f fd) (R : Rc K C) (G : Gn mg) (T : Bi mg)
    (M1 : Meth K C "put" f1) (b1 : Binds K fd1 ["self", "tree"] []) (G1 : FnOk P w K mg base CX0 (k + 1) f1 fd1 ["self", "tree"] (spPut C))
    (M2 : Meth K C "take_digit" f2) (b2 : Binds K fd2 ["self", "cell"] []) (G2 : FnOk P w K mg base CX0 (k + 2) f2 fd2 ["self", "cell"] (spStep C (fun s _ => ∃ ns, s.digits = some ns ∧ ns.length ≤ 2) digF))
    (M3 : Meth K C "take_letter" f3) (b3 : Binds K fd3 ["self", "cell"] []) (G3 : FnOk P w K mg base CX0 (k + 2) f3 fd3 ["self", "cell"] (spStep C (fun s c => isLetter c = true ∧ s.digits = none) stepLetter))
    (M4 : Meth K C "take_plain" f4) (b4 : Binds K fd4 ["self", "cell"] []) (G4 : FnOk P w K mg base CX0 (k + 2) f4 fd4 ["self", "cell"] (spStep C (fun _ _ => True) stepPlain)) :
    FnOk P w K mg base CX0 (k + 3) f fd ["self", "cell"] (spStep C (fun s _ => Ok s) step) := by
  refine F.ok sc_t_take (fun vs H Q E h => ?_) (fun cdv A outer s H vs Q E hr h => ?_)
  · obtain ⟨_, _, _, _, _, rfl, _⟩ := h
    rfl
  · obtain ⟨p, c, H0, N, s, rfl, hR, hN, c0, c1, hok, q1, q2⟩ := h
    refine ⟨_, (pss_cons (ps_if (pt_truth (pe_fld (pv 0) rfl) (fun _ => rfl)) (pss_one (ps_ret pe_bl)) pss_nil)
      (pss_cons (ps_if (pt_cmpR op_notN (pe_fld (pv 0) rfl) pe_non (nomark _)) (pss_one (ps_ret (pe_meth (pv 0) R.cl M2 G2 hr b2 .nil pass0 (pa_cons (pv 1) pa_nil)))) pss_nil)
      (pss_cons (ps_if (PW.pt (pw_or (pt_chain op_le op_le pe_int (pv 1) pe_int) (pw_or1 (pt_chain op_le op_le (pe_op op_add (pe_gi (by rfl) G.MARK) pe_int) (pv 1) (pe_op op_add (pe_gi (by rfl) G.MARK) pe_int))))) (pss_one (ps_ret (pe_meth (pv 0) R.cl M3 G3 hr b3 .nil pass0 (pa_cons (pv 1) pa_nil)))) pss_nil)
      (pss_cons (ps_if (pt_truth (pe_fld (pv 0) rfl) (fun _ => rfl)) (pss_one (ps_ret pe_bl)) pss_nil)
      (pss_cons (ps_if (pt_cmpR op_eq (pv 1) (pe_gi (by rfl) G.NUMBER) (nomark _)) (pss_cons (ps_fld (pv 0) (pe_lst pa_nil) rfl)
        (pss_one (ps_ret pe_bl))) pss_nil)
      (pss_cons (ps_if (pt_cmpR op_eq (pv 1) (pe_gi (by rfl) G.BEGIN) (nomark _)) (pss_cons (ps_expr (pe_bm PySem.F.plainAttrs_list PySem.F.slot_list_append PySem.F.type_list_append mt_append (pe_fld (pv 0) rfl) (pa_cons (pe_lst pa_nil) pa_nil)))
        (pss_one (ps_ret (pe_cmpR op_le (pe_callB call_len (by rfl) T.m_len (by decide +kernel) (pa_cons (pe_fld (pv 0) rfl) pa_nil)) (pe_gi (by rfl) G.MOST_TUPLES) (nomark _))))) pss_nil)
      (pss_cons (ps_if (pt_cmpR op_eq (pv 1) (pe_gi (by rfl) G.END) (nomark _)) (pss_cons (ps_if (pt_not (pt_truth (pe_fld (pv 0) rfl) (fun _ => rfl))) (pss_one (ps_ret pe_bl)) pss_nil)
        (pss_one (ps_ret (pe_meth (pv 0) R.cl M1 G1 (hr.mono (by omega)) b1 .nil pass0 (pa_cons (pe_callTy call_tuple_of (by rfl) T.m_tuple (by decide +kernel) (pa_cons (pe_bm0 PySem.F.plainAttrs_list PySem.F.slot_list_pop PySem.F.type_list_pop mt_pop (pe_fld (pv 0) rfl)) pa_nil)) pa_nil))))) pss_nil)
      (pss_one (ps_ret (pe_meth (pv 0) R.cl M4 G4 hr b4 .nil pass0 (pa_cons (pv 1) pa_nil))))))))))), ?_⟩
    obtain ⟨dx, lw, lb, bs, dv, r⟩ := id hR
    obtain ⟨ws, ew, lws⟩ := r.whole.len
    refine ⟨.ref p, rfl, p, C, dx, _, _, rfl, r.ob, R.cl, R.n1, rf_whole, !ws.isEmpty, .inl ⟨_, sqL ew, rfl⟩, ite2 (fun e => ?_) (fun e => ?_)⟩
    · have h1 : s.whole ≠ [] := fun z => by
        rw [z] at lws
        cases ws with
        | nil => cases e
        | cons _ _ => cases lws
      exact q2 (by unfold step; rw [if_neg h1]) H r.kp
    have h1 : s.whole = [] := by
      cases hs : s.whole with
      | nil => rfl
      | cons _ _ =>
        rw [hs] at lws
        cases ws with
        | nil => cases lws
        | cons _ _ => exact absurd rfl e
    refine ⟨.ref p, rfl, p, C, dx, _, _, rfl, r.ob, R.cl, R.n4, rf_digits, rfl, _, rfl, ite2 (fun e => ?_) (fun e => ?_)⟩
    · rcases r.dig with ⟨rfl, _⟩ | ⟨ld, ns, rfl, el, hns, _⟩
      · cases e
      have ev : ∀ s', step s c = s' ↔ digF s c = s' := fun s' => by
        unfold step digF
        rw [if_pos h1, hns]
      refine ⟨.ref p, rfl, p, dx, _, rfl, r.ob, rf_no no_digit, .int c, rfl, p, c, H0, N, s, rfl, hR, hN, c0, c1, ⟨ns, hns, hok ns hns⟩, fun s' e => q1 s' ((ev _).mpr e), fun e => q2 ((ev _).mpr e)⟩
    have hdg : s.digits = none := by
      rcases r.dig with ⟨_, z⟩ | ⟨ld, ns, rfl, _⟩
      · exact z
      · exact absurd rfl e
    have hdv : dv = .non := by
      rcases r.dig with ⟨z, _⟩ | ⟨ld, ns, _, _, z, _⟩
      · exact z
      · rw [hdg] at z
        cases z
    subst hdv
    have st0 : step s c = if isLetter c then stepLetter s c else if s.word = [] then (if c = 59 then some { s with digits := some [] } else if c = 27 then (if s.stack.length + 1 ≤ 12 then some { s with stack := [] :: s.stack } else none)
        else if c = 28 then (match s.stack with | [] => none | x :: r => some (({ s with stack := r } : RS).put (.tuple x))) else stepPlain s c) else none := by
      unfold step
      rw [if_pos h1, hdg]
      all_goals rfl
    have letter : isLetter c = true → spStep C (fun s c => isLetter c = true ∧ s.digits = none) stepLetter [.ref p, .int c] H Q E0 := fun h => by
      rw [if_pos h] at st0
      exact ⟨p, c, H0, N, s, rfl, hR, hN, c0, c1, ⟨h, hdg⟩, fun s' e => q1 s' (st0.trans e), fun e => q2 (st0.trans e)⟩
    have goL : isLetter c = true → tMeth C "take_letter" (spStep C (fun s c => isLetter c = true ∧ s.digits = none) stepLetter) [] E0 (tVar 0) (tCons (tVar 1) tNil) [some (.ref p), some (.int c)] H Q := fun h =>
      ⟨.ref p, rfl, p, dx, _, rfl, r.ob, rf_no no_letter, .int c, rfl, letter h⟩
    refine letter_test rfl ?_
    cases hl : isLetter c with
    | true =>
      refine ite2 (fun _ => goL hl) fun z => absurd rfl z
    | false =>
    refine ite2 (fun z => by cases z) fun _ => ?_
    rw [if_neg (by rw [hl]; exact Bool.false_ne_true)] at st0
    refine ⟨.ref p, rfl, p, C, dx, _, _, rfl, r.ob, R.cl, R.n3, rf_word, _, ⟨by rw [wStr_len, sizeLine_eq]; have := r.bl; omega, rfl⟩, ite2 (fun e => ?_) (fun e => ?_)⟩
    · have hw : s.word ≠ [] := word_ne e
      rw [if_neg hw] at st0
      exact q2 st0 H r.kp
    have hw : s.word = [] := by
      cases hs : s.word with
      | nil => rfl
      | cons a l =>
        rw [hs] at e
        refine absurd ?_ e
        rw [wStr_len]
        show ((((a :: l).length : Nat) : Int) != 0) = true
        simp
        omega
    rw [if_pos hw] at st0
    refine ⟨.int c, rfl, rfl, _, rfl, ite2 (fun e => ?_) (fun e => ?_)⟩
    · have e := eqI e
      rw [if_pos e] at st0
      refine ⟨small (by show 0 ≤ 1000; omega), fun ld nd => ?_⟩
      have nd0 : H0 ld = none := r.kp.none List.not_mem_nil nd
      have k1 : Kp [] H (upd H ld (.lst [])) := Kp.new nd
      have r1 := r.kp0 k1
      refine ⟨.ref p, rfl, p, C, dx, _, rfl, r1.ob, R.cl, R.n4, (show 4 < 1000 by decide), ?_⟩
      rw [put_digits]
      have ne1 : ld ≠ lw := fun z => by
        rw [← z, nd] at ew
        cases ew
      have ne2 : ld ≠ lb := fun z => by
        have := r.begun
        rw [← z, nd] at this
        cases this
      have ne3 : ld ∉ bs := fun m => by
        have : ∀ {bs : List Addr} {st : List (List PyData)}, Paired (LsAt H) bs st → ∀ b ∈ bs, H b ≠ none := fun q => by
          induction q with
          | nil => exact fun _ m => absurd m List.not_mem_nil
          | cons h _ ih =>
            intro b m
            rcases List.mem_cons.mp m with rfl | m
            · obtain ⟨xs, ex, _⟩ := h
              rw [ex]
              exact fun z => by cases z
            · exact ih b m
        exact this r.stk ld m nd
      have r2 := r1.setP (dv' := .ref ld) s.word (some []) r.bl (fun ns z => by cases z; exact ⟨Nat.zero_le _, fun _ m => absurd m List.not_mem_nil⟩) (.inr ⟨ld, [], rfl, upd_same, rfl, nd0, ne1, ne2, ne3⟩)
      exact q1 _ st0 _ ⟨dx, lw, lb, bs, _, r2.mono (Nat.le_succ N)⟩
    rw [if_neg (neI e)] at st0
    refine ⟨.int c, rfl, rfl, _, rfl, ite2 (fun e => ?_) (fun e => ?_)⟩
    · have e := eqI e
      rw [if_pos e] at st0
      have lst := stk_len r.stk
      refine ⟨.ref p, rfl, p, C, dx, _, _, rfl, r.ob, R.cl, R.n2, rf_begun, .inl ⟨rfl, _, sqL r.begun⟩, small (by show 0 ≤ 1000; omega), fun nb en => ?_⟩
      have n0 : H0 nb = none := r.kp.none List.not_mem_nil en
      have k1 : Kp [] H (upd H nb (.lst [])) := Kp.new en
      have r1 := r.kp0 k1
      have hbs : bs.length ≤ N := by
        rw [lst]
        exact r.bs_
      have lb1 : (bs.reverse.map V.ref).length = bs.length := by simp
      refine ⟨lb, _, _, rfl, rfl, r1.begun, by rw [lb1, sizeLine_eq]; omega, ?_⟩
      have k2 : Kp [lb] (upd H nb (.lst [])) (upd (upd H nb (.lst [])) lb (.lst (bs.reverse.map V.ref ++ [.ref nb]))) := kp_set r1.begun rfl
      have ne1 : nb ≠ lw := fun z => by
        rw [← z, en] at ew
        cases ew
      have ne2 : nb ≠ lb := fun z => by
        have := r.begun
        rw [← z, en] at this
        cases this
      have eb : bs.reverse.map V.ref ++ [V.ref nb] = (nb :: bs).reverse.map V.ref := by rw [List.reverse_cons, List.map_append]; rfl
      rw [eb] at k2 ⊢
      have np : p ∉ [lb] := fun m => r1.p_ne r1.begun (List.mem_singleton.mp m)
      refine ⟨.ref p, rfl, p, C, dx, _, _, rfl, k2 _ _ r1.ob (.inr np), R.cl, R.n2, rf_begun, _, (nb :: bs).length, rfl, .inl ⟨_, sqL upd_same, by rw [List.length_map, List.length_reverse]⟩, _, 12, rfl, rfl, ?_⟩
      show Q (.bl (decide (((bs.length + 1 : Nat) : Int) ≤ 12))) _
      rw [← lst] at st0
      have kf : Kp [] H0 (upd (upd H nb (.lst [])) lb (.lst ((nb :: bs).reverse.map V.ref))) := kp_base r1.kp r.nb
      by_cases h12 : bs.length + 1 ≤ 12
      · rw [if_pos h12] at st0
        rw [decide_eq_true (show ((bs.length + 1 : Nat) : Int) ≤ 12 by omega)]
        refine q1 _ st0 _ ⟨dx, lw, lb, nb :: bs, .non, ?_⟩
        have nbs : nb ∉ bs := fun m => by
          have : ∀ {bs : List Addr} {st : List (List PyData)}, Paired (LsAt H) bs st → ∀ b ∈ bs, H b ≠ none := fun q => by
            induction q with
            | nil => exact fun _ m => absurd m List.not_mem_nil
            | cons h _ ih =>
              intro b m
              rcases List.mem_cons.mp m with rfl | m
              · obtain ⟨xs, ex, _⟩ := h
                rw [ex]
                exact fun z => by cases z
              · exact ih b m
          exact this r.stk nb m en
        refine ⟨k2 _ _ r1.ob (.inr np), r.np, r1.whole.any k2 (fun m => r.ne (List.mem_singleton.mp m)), r.nw, upd_same, r.nb, r.ne, List.nodup_cons.mpr ⟨nbs, r.nd⟩, ?_, ?_, .inl ⟨rfl, hdg⟩, kf, Nat.le_succ_of_le r.bw, ?_, ?_, r.bl, r.bd⟩
        · intro b m
          rcases List.mem_cons.mp m with rfl | m
          · exact ⟨ne1, ne2, n0⟩
          · exact r.fr b m
        · refine .cons ⟨[], k2 _ _ upd_same (.inr fun m => ne2 (List.mem_singleton.mp m)), fun _ => .nil⟩ (stk_any k2 (fun b m z => (r.fr b m).2.1 (List.mem_singleton.mp z)) r1.stk)
        · show s.stack.length + 1 ≤ N + 1
          exact Nat.succ_le_succ r.bs_
        · intro ds m
          rcases List.mem_cons.mp m with rfl | m
          · exact Nat.zero_le _
          · exact Nat.le_succ_of_le (r.bi ds m)
      · rw [if_neg h12] at st0
        rw [decide_eq_false (show ¬ ((bs.length + 1 : Nat) : Int) ≤ 12 by omega)]
        exact q2 st0 _ kf
    rw [if_neg (neI e)] at st0
    refine ⟨.int c, rfl, rfl, _, rfl, ite2 (fun e => ?_) (fun e => ?_)⟩
    · have e := eqI e
      rw [if_pos e] at st0
      refine ⟨.ref p, rfl, p, C, dx, _, _, rfl, r.ob, R.cl, R.n2, rf_begun, (!(bs.reverse.map V.ref).isEmpty), .inl ⟨_, sqL r.begun, rfl⟩, ?_⟩
      have hp := r.stk
      cases hst : s.stack with
      | nil =>
        rw [hst] at hp st0
        cases hp
        refine ite2 (fun _ => q2 st0 H r.kp) fun z => absurd rfl z
      | cons y st =>
        rw [hst] at hp st0
        cases hp with
        | @cons b _ bs' _ hb hrest =>
        obtain ⟨xs, eb, hxs⟩ := hb
        have er : ((b :: bs').reverse.map V.ref) = (bs'.reverse.map V.ref) ++ [V.ref b] := by rw [List.reverse_cons, List.map_append]; rfl
        have ne1 : (((b :: bs').reverse.map V.ref).isEmpty) = false := by
          rw [er]
          cases (bs'.reverse.map V.ref) <;> rfl
        rw [ne1]
        refine ite2 (fun z => by cases z) fun _ => ?_
        have el := r.begun
        rw [er] at el
        have e1 : ((bs'.reverse.map V.ref) ++ [V.ref b])[((bs'.reverse.map V.ref) ++ [V.ref b]).length - 1]? = some (V.ref b) := by
          rw [List.length_append]
          show ((bs'.reverse.map V.ref) ++ [V.ref b])[(bs'.reverse.map V.ref).length + 1 - 1]? = _
          rw [Nat.add_sub_cancel, List.getElem?_append_right (Nat.le_refl _), Nat.sub_self]
          rfl
        have e2 : ((bs'.reverse.map V.ref) ++ [V.ref b]).dropLast = bs'.reverse.map V.ref := List.dropLast_concat
        obtain ⟨f1, f2, f3⟩ := r.fr b List.mem_cons_self
        obtain ⟨nd1, nd2⟩ := List.nodup_cons.mp r.nd
        have k1 : Kp [lb] H (upd H lb (.lst (bs'.reverse.map V.ref))) := kp_set el rfl
        have eb1 := k1 _ _ eb (.inr fun m => f2 (List.mem_singleton.mp m))
        have np : p ∉ [lb] := fun m => r.p_ne el (List.mem_singleton.mp m)
        have r1 : RdAt C H0 (upd H lb (.lst (bs'.reverse.map V.ref))) p N { s with stack := st } dx lw lb bs' .non := by
          refine ⟨k1 _ _ r.ob (.inr np), r.np, r.whole.any k1 (fun m => r.ne (List.mem_singleton.mp m)), r.nw, upd_same, r.nb, r.ne, nd2, fun b' m => r.fr b' (List.mem_cons_of_mem _ m), stk_any k1 (fun b' m z => (r.fr b' (List.mem_cons_of_mem _ m)).2.1 (List.mem_singleton.mp z)) hrest, .inl ⟨rfl, hdg⟩, kp_base r.kp r.nb, r.bw, ?_, fun ds m => r.bi ds (by rw [hst]; exact List.mem_cons_of_mem _ m), r.bl, r.bd⟩
          have := r.bs_
          rw [hst] at this
          exact Nat.le_of_succ_le this
        refine ⟨.ref p, rfl, p, dx, _, rfl, r.ob, rf_no no_put, .ref p, rfl, p, C, dx, _, _, rfl, r.ob, R.cl, R.n2, rf_begun, .inl ⟨rfl, _, sqL el⟩, lb, _, _, rfl, rfl, el, e1, ?_⟩
        rw [e2]
        refine ⟨b, xs, rfl, .inl ⟨sqL eb1, fun l nl => ?_⟩⟩
        have k2 : Kp [] (upd H lb (.lst (bs'.reverse.map V.ref))) (upd (upd H lb (.lst (bs'.reverse.map V.ref))) l (.tup xs)) := Kp.new nl
        exact ⟨p, _, .tuple y, H0, N, { s with stack := st }, rfl, ⟨dx, lw, lb, bs', _, r1.kp0 k2⟩, hN, fun S => .tup upd_same (DaL.any (k1.trans k2.of) hxs S), fun H' h' => q1 _ st0 H' h'⟩
    rw [if_neg (neI e)] at st0
    refine ⟨.ref p, rfl, p, dx, _, rfl, r.ob, rf_no no_plain, .int c, rfl, p, c, H0, N, s, rfl, hR, hN, c0, c1, trivial, fun s' e => q1 s' (st0.trans e), fun e => q2 (st0.trans e)⟩
end
end K18
set_option Elab.async false
set_option linter.all false
set_option maxRecDepth 100000
set_option maxHeartbeats 4000000
namespace K18
open PySem PySem.Spec PyProof.Rows L2 Kb
theorem tabG_keep {P : Addr} {S : List Addr} {H H' : Hp} (h : GxR.TabG H P) (k : Kp S H H') (n : P ∉ S) : GxR.TabG H' P := by
  obtain ⟨ps, e, t⟩ := h
  exact ⟨ps, k P _ e (.inr n), t⟩
theorem ints_back : ∀ (ns : List Int), (ns.map PyData.int).map intOf = ns
  | [] => rfl
  | n :: r => by
    show n :: (r.map PyData.int).map intOf = n :: r
    rw [ints_back r]
theorem fits_big {m : Nat} (h : m ≤ 1000000) : KbAt.Fits (m : Int) := KbAt.fits_of (by
  rw [Int.natAbs_natCast]
  by_cases hm : m = 0
  · rw [hm]
    decide
  · exact (Nat.log2_lt hm).mpr (Nat.lt_of_le_of_lt h (by decide +kernel)))
theorem runs_snoc (s0 : RS) (ns : List Int) (i : Nat) {c : Int} (hc : ns[i]? = some c) (s : RS) (h : runs s0 0 (ns.take i) = .ok s) : (∀ s', step s c = some s' → runs s0 0 (ns.take (i + 1)) = .ok s') ∧ (step s c = none → runs s0 0 ns = .error i) := by
  have hi : i < ns.length := (List.getElem?_eq_some_iff.mp hc).1
  have hl : (ns.take i).length = i := by rw [List.length_take]; omega
  constructor
  · intro s' e
    rw [List.take_add_one, hc, runs_app, h]
    dsimp only
    show runs s _ [c] = _
    rw [runs_some e]
    rfl
  · intro e
    have hd : ns.drop i = c :: ns.drop (i + 1) := by
      rw [List.drop_eq_getElem_cons hi]
      have : ns[i] = c := by
        have := List.getElem?_eq_getElem hi
        rw [hc] at this
        exact (Option.some.inj this).symm
      rw [this]
    rw [← List.take_append_drop i ns, runs_app, h]
    dsimp only
    rw [hd, runs_none e, hl, Nat.zero_add]
section
variable {P : Program} {w : World} {K : PySem.W.Frag} {mg : Str → Option Value} {base : Heap}
/-! ### tree_of -/
def spTreeOf (P1 CC CB : Addr) : Sp := fun vs H Q E => ∃ S x d, vs = [x] ∧ Da S H x d ∧ P1 ∈ S ∧ GxR.TabG H P1 ∧ (dsOf d).length ≤ 200000 ∧
  (cellsOk d = false → ∀ H', Kp [P1] H H' → GxR.TabG H' P1 → E (.ref CC) none H') ∧
  (cellsOk d = true → ∀ (m : Nat) H' dd, treeOf (isOf d) = .error m → Kp [P1] H H' → GxR.TabG H' P1 → H' dd = none → E (.ref CB) (some dd) (upd H' dd (.xd [("at", .int m)]))) ∧
  (cellsOk d = true → ∀ t, treeOf (isOf d) = .ok t → ∀ x' H', Kp [P1] H H' → GxR.TabG H' P1 → (∀ S', Da S' H' x' t) → Q x' H')
theorem ok_tree_of {f f1 f2 fi fI cc cda P1 CC CB C : Addr} {q : Str} {z : KbAt.Ps} {fd fd1 fd2 fdi : FuncData} {k : Nat} (F : Fun K "tree_of" "tree_of" s_tree_of f fd) (T : Bi mg) (mE : mg "enumerate" = none) (EC : Ec K mg "BadCells" CC) (TB : KbAt.Txt P K CB fI cc cda q z) (gB : mg "BadFile" = some (.ref CB)) (gs : mg "super" = none)
    (F1 : Fun K "are_cells" "are_cells" s_are_cells f1 fd1) (b1 : Binds K fd1 ["thing"] []) (g1 : mg "are_cells" = some (.ref f1)) (G1 : FnOk P w K mg base CX0 (k + 7) f1 fd1 ["thing"] (spAreCells P1))
    (R : Rc K C) (MK : Mk K C fi) (gC : mg "TreeReading" = some (.ref C)) (bi : Binds K fdi ["self"] []) (Gi : FnOk P w K mg base CX0 (k + 1) fi fdi ["self"] (spInit C))
    (M2 : Meth K C "take" f2) (b2 : Binds K fd2 ["self", "cell"] []) (G2 : FnOk P w K mg base CX0 (k + 3) f2 fd2 ["self", "cell"] (spStep C (fun s _ => Ok s) step)) :
    FnOk P w K mg base (L2.CX P w) (k + 8) f fd ["cells"] (spTreeOf P1 CC CB) := by
  refine F.okX sc_tree_of (fun vs H Q E h => ?_) (fun cdv A outer s H vs Q E hr h => ?_)
  · obtain ⟨_, _, _, rfl, _⟩ := h
    rfl
  · obtain ⟨S, x, d, rfl, hx, hP, hG, hlen, qC, qB, qS⟩ := h
    refine ⟨_, (pss_cons (ps_if (pt_not (pt_val (pe_call G1 hr (by rfl) g1 F1.kp b1 .nil pass0 (pa_cons (pv 0) pa_nil)))) (pss_one (ps_raise rfl (takes_of rfl rfl rfl rfl) (pmk_own PySem.F.excBase_ValueError EC.exc EC.g EC.kp (raises_own EC.sub EC.ty) (by rfl)))) pss_nil)
      (pss_cons (ps_set (i := 1) sc_tree_of.nd rfl (.inl rfl) (pe_make0 MK Gi (hr.mono (by omega)) (by rfl) gC bi .nil pass0))
      (pss_cons (ps_for (passes_of rfl) rfl (pi_enumU (by rfl) mE (pa_cons (pv 0) pa_nil)) (pg_tup (by rfl) (pgs_cons (pg_name (i := 2) sc_tree_of.nd rfl (.inl rfl)) (pgs_cons (pg_name (i := 3) sc_tree_of.nd rfl (.inl rfl)) pgs_nil)))
        (pss_one (ps_if (pt_not (pt_val (pe_meth (pv 1) R.cl M2 G2 (hr.mono (by omega)) b2 .nil pass0 (pa_cons (pv 3) pa_nil)))) (pss_one (ps_raise rfl (takes_of rfl rfl rfl rfl) (KbAt.pmk (nm := "BadFile") TB gB gs (k := k) (hr.mono (by omega)) (pa_cons (pv 2) pa_nil) (by rfl)))) pss_nil)))
      (pss_cons (ps_if (pt_not (pt_truth (pe_fld (pv 1) rfl) (fun _ => rfl))) (pss_one (ps_raise rfl (takes_of rfl rfl rfl rfl) (KbAt.pmk (nm := "BadFile") TB gB gs (k := k) (hr.mono (by omega)) (pa_cons (pe_callB call_len (by rfl) T.m_len (by decide +kernel) (pa_cons (pv 0) pa_nil)) pa_nil) (by rfl)))) pss_nil)
      (pss_one (ps_ret (pe_ix ix_seq (pe_fld (pv 1) rfl) pe_int (fun _ _ => rfl)))))))), ?_⟩
    refine ⟨x, rfl, S, x, d, rfl, hx, hP, hG, fun H1 k1 g1 => ⟨_, rfl, ?_⟩⟩
    have k1S : Kp S H H1 := k1.mono fun b hb => List.mem_singleton.mp hb ▸ hP
    cases hc : cellsOk d with
    | false =>
      refine ite2 (fun _ => ?_) fun y => absurd rfl y
      exact qC hc H1 k1 g1
    | true =>
      refine ite2 (fun y => Bool.noConfusion y) fun _ => ?_
      obtain ⟨a, ns, rfl, ens, hC, hsq⟩ := hx.cells (K := K) hc
      have hl : (dsOf d).length = ns.length := by rw [ens, List.length_map]
      have eI : isOf d = ns := by
        unfold isOf
        rw [ens, ints_back]
      rw [eI] at qB qS
      have qB := qB hc
      have qS := qS hc
      have hs : isSeq d = true := by
        unfold cellsOk at hc
        exact (Bool.and_eq_true_iff.mp hc).1
      intro p dx np nd npd
      refine ⟨p, dx, H1, rfl, upd_same, np, (Kp.new nd).trans (Kp.new (by rw [upd_ne (Ne.symm npd)]; exact np)), fun H2 r0 => ⟨rfl, ?_⟩⟩
      have kP : ∀ {H' N s'}, Rd C H1 H' p N s' → Kp [] H1 H' := fun ⟨_, _, _, _, _, r⟩ => r.kp
      obtain ⟨S1, e1, e2, e3, e4⟩ := (hsq H1 k1S).sc
      have okS : ∀ H', Kp [] H1 H' → S1.ok K H' := fun H' kk => e4 H' ((hsq H1 k1S).kp kk) (sqL_kp kk) (sqT_kp kk)
      have hnt : ∀ y, S1 ≠ .txt y := fun y z => by
        rw [z] at e1
        cases e1
      refine ⟨.ref a, rfl, S1, by rw [e1], hnt, okS H2 (kP r0), ?_⟩
      have len1 : S1.len = ns.length := by rw [e2, List.length_map]
      refine for_by (n := ns.length) (fun i σ H' => ∃ s' y2 y3, σ = [some (.ref a), some (.ref p), y2, y3] ∧ Rd C H1 H' p i s' ∧ runs .nil 0 (ns.take i) = .ok s' ∧ Ok s') ⟨.nil, none, none, rfl, r0, rfl, none_Ok rfl⟩ ?_ ?_
      · rintro i σ H3 hi ⟨s3, y2, y3, rfl, r3, hr3, ok3⟩
        refine ⟨⟨okS H3 (kP r3), by rw [len1]; exact hi⟩, ?_⟩
        rintro v H4 ⟨t, y, rfl, nt, rfl, hy⟩
        rw [e3] at hy
        obtain ⟨c, hcn, rfl⟩ : ∃ c, ns[i]? = some c ∧ V.int c = y := by
          rw [List.getElem?_map] at hy
          cases qq : ns[i]? with
          | none => rw [qq] at hy; cases hy
          | some c => rw [qq] at hy; cases hy; exact ⟨c, rfl, rfl⟩
        obtain ⟨hn1, hn2⟩ := runs_snoc .nil ns i hcn s3 hr3
        have hcb := hC c (List.mem_of_getElem? hcn)
        obtain ⟨dx3, lw, lb, bs, dv, r⟩ := r3
        have r4 := r.kp0 (Kp.new (o := .tup [.int (i : Nat), .int c]) nt)
        refine ⟨t, [.int (i : Nat), .int c], rfl, sqT upd_same, rfl, .int (i : Nat), [.int c], rfl, .int c, [], rfl, rfl, ?_⟩
        refine ⟨.ref p, rfl, p, dx3, _, rfl, r4.ob, rf_no no_take, .int c, rfl, p, c, H1, i, s3, rfl, ⟨dx3, lw, lb, bs, dv, r4⟩, by omega, hcb.1, hcb.2, ok3, fun s' es H5 r5 => ?_, fun es H5 k5 => ?_⟩
        · refine ⟨_, rfl, ite2 (fun y => Bool.noConfusion y) fun _ => ?_⟩
          exact ⟨s', _, _, rfl, r5, hn1 s' es, step_Ok ok3 es⟩
        · refine ⟨_, rfl, ite2 (fun _ => ?_) fun y => absurd rfl y⟩
          refine ⟨.int i, rfl, (i : Int), rfl, fits_big (by omega), fun dd nd => ?_⟩
          refine qB i H5 dd ?_ (k1.trans k5.of) (tabG_keep g1 k5 List.not_mem_nil) nd
          unfold treeOf
          rw [hn2 es]
      · rintro σ H3 ⟨s3, y2, y3, rfl, r3, hr3, ok3⟩
        refine ⟨⟨okS H3 (kP r3), len1.symm⟩, ?_⟩
        rw [List.take_length] at hr3
        obtain ⟨dx3, lw, lb, bs, dv, r⟩ := r3
        obtain ⟨ws, ew, hws⟩ := r.whole
        have g3 : GxR.TabG H3 P1 := tabG_keep g1 r.kp List.not_mem_nil
        have k3 : Kp [P1] H H3 := k1.trans r.kp.of
        have lws := (hws []).len
        refine ⟨.ref p, rfl, p, C, dx3, _, _, rfl, r.ob, R.cl, R.n1, rf_whole, !ws.isEmpty, .inl ⟨_, sqL ew, rfl⟩, ?_⟩
        cases hwh : s3.whole with
        | nil =>
          rw [hwh] at lws
          have : ws = [] := List.length_eq_zero_iff.mp lws
          subst this
          refine ite2 (fun _ => ?_) fun y => absurd rfl y
          refine ⟨.ref a, rfl, .ref a, ns.length, rfl, by rw [← hl]; exact len_of (hx.kp (k1S.trans r.kp.of)) hs, (ns.length : Int), rfl, fits_big (by omega), fun dd nd => ?_⟩
          refine qB ns.length H3 dd ?_ k3 g3 nd
          unfold treeOf
          rw [hr3]
          dsimp only
          rw [hwh]
        | cons t ts =>
          rw [hwh] at lws hws
          cases ws with
          | nil => cases lws
          | cons w0 ws =>
          refine ite2 (fun y => Bool.noConfusion y) fun _ => ?_
          refine ⟨.ref p, rfl, p, C, dx3, _, _, rfl, r.ob, R.cl, R.n1, rf_whole, ?_⟩
          refine ixE (n := 0) (.inl (sqL ew)) rfl ?_
          refine qS t ?_ w0 H3 k3 g3 fun S' => ?_
          · unfold treeOf
            rw [hr3]
            dsimp only
            rw [hwh]
          · cases hws S' with
            | cons h _ => exact h
end
end K18
set_option Elab.async false
set_option linter.all false
set_option maxRecDepth 100000
set_option maxHeartbeats 4000000
namespace K18
open PySem PySem.Spec PyProof.Rows L2 Kb
def abc : List Nat := [97, 98, 99, 100, 101, 102, 103, 104, 105, 106, 107, 108, 109, 110, 111, 112, 113, 114, 115, 116, 117, 118, 119, 120, 121, 122]
theorem abc_eq : ("abcdefghijklmnopqrstuvwxyz" : Str) = SX.S abc := by decide +kernel
def isLow (c : Nat) : Bool := decide (97 ≤ c) && decide (c ≤ 122)
theorem abc_mem (c : Nat) : decide (c ∈ abc) = isLow c := by
  unfold isLow
  by_cases h : 97 ≤ c ∧ c ≤ 122
  · obtain ⟨n, rfl⟩ : ∃ n, c = 97 + n := ⟨c - 97, by omega⟩
    have hn : n < 26 := by omega
    have : ∀ n : Fin 26, decide (97 + n.val ∈ abc) = (decide (97 ≤ 97 + n.val) && decide (97 + n.val ≤ 122)) := by decide +kernel
    exact this ⟨n, hn⟩
  · have h1 : c ∉ abc := fun m => by
      unfold abc at m
      simp at m
      omega
    rw [decide_eq_false h1]
    symm
    simp
    omega
theorem in_abc (c : Nat) : (!(Builtin.Str.occurrences ("abcdefghijklmnopqrstuvwxyz" : Str) (⟨#[c]⟩ : Str) 0 ("abcdefghijklmnopqrstuvwxyz" : Str).length 1).isEmpty) = isLow c := by
  rw [← abc_mem, abc_eq]
  exact SX.in_one abc c
theorem ix_abc : ∀ n : Fin 26, Builtin.Str.occurrences ("abcdefghijklmnopqrstuvwxyz" : Str) (⟨#[97 + n.val]⟩ : Str) 0 ("abcdefghijklmnopqrstuvwxyz" : Str).length 1 = [n.val] := by decide +kernel
theorem isWord_eq (x : Str) : isWord x = (decide (x.length ≤ 8) && x.cps.toList.all isLow) := rfl
theorem take_all_succ {p : Nat → Bool} {l : List Nat} {i : Nat} {c : Nat} (h : (l.take i).all p = true) (e : l[i]? = some c) : (l.take (i + 1)).all p = p c := all_take_succ h e
theorem big {n : Nat} (h : n ≤ 1000000) : n ≤ sizeLine := by
  rw [sizeLine_eq]
  omega
def rSIdx : V → List V → Hp → VK → Prop := fun x xs H Q => ∃ a b i rest, x = .str a ∧ xs = [.str b] ∧ Builtin.Str.occurrences a b 0 a.length 1 = i :: rest ∧ Q (.int (i : Nat)) H
theorem mt_sidx {X : Cx} : MtR X "str.index" rSIdx := mt_sindex
section
variable {P : Program} {w : World} {K : PySem.W.Frag} {mg : Str → Option Value} {base : Heap}
/-! ### letters_in -/
def spLetters (P2 : Addr) : Sp := fun vs H Q _ => ∃ x : Str, vs = [.str x] ∧ x.length ≤ 1000000 ∧ GxR.TabG H P2 ∧
  (isWord x = true → ∀ H' p, Kp [P2] H H' → GxR.TabG H' P2 → H p = none → H' p = some (.lst ((wordCells x.cps.toList).map V.int)) → Q (.ref p) H') ∧ (isWord x = false → ∀ H', Kp [P2] H H' → GxR.TabG H' P2 → Q .non H')
end
end K18
set_option Elab.async false
set_option linter.all false
set_option maxRecDepth 100000
set_option maxHeartbeats 4000000
namespace K18
open PySem PySem.Spec PyProof.Rows L2 Kb
/-! ### how much data -/
mutual
def sz : PyData → Nat
  | .str x => 20 + x.length
  | .tuple ds => 20 + szs ds
  | .list ds => 20 + szs ds
  | _ => 20
def szs : List PyData → Nat
  | [] => 0
  | d :: ds => sz d + szs ds
end
theorem szs_app : ∀ (l m : List PyData), szs (l ++ m) = szs l + szs m
  | [], m => (Nat.zero_add _).symm
  | d :: l, m => by
    show sz d + szs (l ++ m) = sz d + szs l + szs m
    rw [szs_app l m]
    omega
theorem szs_mem : ∀ {l : List PyData} {d : PyData}, d ∈ l → sz d ≤ szs l
  | _ :: l, d, h => by
    rcases List.mem_cons.mp h with rfl | h
    · exact Nat.le_add_right _ _
    · exact Nat.le_trans (szs_mem h) (Nat.le_add_left _ _)
theorem sz_pos (d : PyData) : 20 ≤ sz d := by
  cases d <;> (unfold sz; omega)
theorem szs_len : ∀ l : List PyData, l.length ≤ szs l
  | [] => Nat.le_refl _
  | d :: l => by
    have := szs_len l
    have := sz_pos d
    show l.length + 1 ≤ sz d + szs l
    omega
theorem szs_take (l : List PyData) (n : Nat) : szs (l.take n) ≤ szs l := by
  have := szs_app (l.take n) (l.drop n)
  rw [List.take_append_drop] at this
  omega
theorem szs_drop (l : List PyData) (n : Nat) : szs (l.drop n) ≤ szs l := by
  have := szs_app (l.take n) (l.drop n)
  rw [List.take_append_drop] at this
  omega
theorem numCells_len (n : Int) : (numCells n).length ≤ 3 := by
  unfold numCells
  split
  · simp
  · split <;> simp
theorem wordCells_len (w : List Nat) : (wordCells w).length ≤ w.length + 1 := by
  unfold wordCells
  cases h : w.reverse with
  | nil => simp
  | cons l r =>
    have : w.length = r.length + 1 := by
      have := congrArg List.length h
      simpa using this
    simp
    omega
mutual
theorem cellsOf_len : ∀ d : PyData, (cellsOf d).length ≤ sz d
  | .none => by unfold cellsOf sz; simp
  | .bool _ => by unfold cellsOf sz; simp
  | .int i => by
    unfold cellsOf sz
    have := numCells_len i
    simp
    omega
  | .str x => by
    unfold cellsOf sz
    have := wordCells_len x.cps.toList
    rw [Array.length_toList] at this
    have : (wordCells x.cps.toList).length ≤ x.length + 1 := this
    omega
  | .tuple ds => by
    unfold cellsOf sz
    have := cellsAll_len ds
    simp
    omega
  | .list _ => by unfold cellsOf; simp
  | .dict _ => by unfold cellsOf; simp
theorem cellsAll_len : ∀ ds : List PyData, (cellsAll ds).length ≤ szs ds
  | [] => by unfold cellsAll; simp
  | d :: ds => by
    unfold cellsAll szs
    have h1 := cellsOf_len d
    have h2 := cellsAll_len ds
    simp
    omega
end
theorem cellsAll_app : ∀ l m : List PyData, cellsAll (l ++ m) = cellsAll l ++ cellsAll m
  | [], _ => rfl
  | d :: l, m => by
    show cellsOf d ++ cellsAll (l ++ m) = _
    rw [cellsAll_app l m, ← List.append_assoc]
    rfl
theorem areTrees_app (n : Nat) : ∀ l m : List PyData, areTrees n (l ++ m) = (areTrees n l && areTrees n m)
  | [], m => by
    unfold areTrees
    rfl
  | d :: l, m => by
    show (isTree n d && areTrees n (l ++ m)) = ((isTree n d && areTrees n l) && areTrees n m)
    rw [areTrees_app n l m, Bool.and_assoc]
theorem areTrees_one (n : Nat) (d : PyData) : areTrees n [d] = isTree n d := by
  unfold areTrees
  unfold areTrees
  rw [Bool.and_true]
theorem areTrees_no {n : Nat} {d : PyData} {ds : List PyData} {i : Nat} (e : ds[i]? = some d) (h : isTree n d = false) : areTrees n ds = false := by
  have hi := (List.getElem?_eq_some_iff.mp e).1
  rw [← List.take_append_drop (i + 1) ds, List.take_add_one, e, areTrees_app, areTrees_app]
  show ((_ && areTrees n [d]) && _) = false
  rw [areTrees_one, h]
  simp
theorem fnFalse {P : Program} {w : World} {K : PySem.W.Frag} {mg : Str → Option Value} {base : Heap} {CX : CXT} {k : Nat} {f : Addr} {fd : FuncData} {ps : List Str} : FnOk P w K mg base CX k f fd ps (fun _ _ _ _ => False) :=
  ⟨fun _ _ _ _ h => h.elim, fun _ _ _ _ _ _ _ _ _ _ _ _ _ h => h.elim⟩
section
variable {P : Program} {w : World} {K : PySem.W.Frag} {mg : Str → Option Value} {base : Heap}
/-! ### cells_in -/
def spCellsIn (P2 : Addr) (n : Nat) : Sp := fun vs H Q _ => ∃ S x d, vs = [x, .int n] ∧ Da S H x d ∧ P2 ∈ S ∧ sz d ≤ 900000 ∧ GxR.TabG H P2 ∧
  (isTree n d = true → ∀ H' p, Kp [P2] H H' → GxR.TabG H' P2 → H p = none → H' p = some (.lst ((cellsOf d).map V.int)) → Q (.ref p) H') ∧ (isTree n d = false → ∀ H', Kp [P2] H H' → GxR.TabG H' P2 → Q .non H')
theorem tab_ne {P2 p : Addr} {H : Hp} (h : GxR.TabG H P2) (n : H p = none) : p ≠ P2 := fun z => by
  obtain ⟨ps, e, _⟩ := h
  rw [z, e] at n
  cases n
end
end K18
set_option Elab.async false
set_option linter.all false
set_option maxRecDepth 100000
set_option maxHeartbeats 4000000
namespace K18
open PySem PySem.Spec PyProof.Rows L2 Kb
/-- x is True, x is False: x of any kind of data -/
def rIsBo : R2 := fun x y H Q => ∃ b, y = .bl b ∧ (match x with | .non => True | .bl _ => True | .int _ => True | .str _ => True | .ref _ => True | _ => False) ∧ Q (.bl (decide (x = .bl b))) H
theorem op_isBo {X : Cx} : OpR X (compareOp .Is) rIsBo := by
  intro pins s σ H x y v u Q I rx ry h
  obtain ⟨b, rfl, hk, q⟩ := h
  cases (show u = Value.bool b from ry)
  have no : ∀ z : V, z ≠ .bl b → Q (.bl (decide (z = .bl b))) H → Q (.bl false) H := fun z hz q => by
    rw [decide_eq_false hz] at q
    exact q
  cases x with
  | non =>
    cases (show v = Value.none from rx)
    exact wpAny_is_other rfl (fun z => by cases z) ⟨.bl false, H, I, rfl, no .non (fun z => by cases z) q⟩
  | bl a =>
    cases (show v = Value.bool a from rx)
    by_cases e : a = b
    · subst e
      exact wpAny_is_self rfl ⟨.bl true, H, I, rfl, by simpa using q⟩
    · exact wpAny_is_other rfl (fun z => e (Value.bool.inj z)) ⟨.bl false, H, I, rfl, by simpa [e] using q⟩
  | int i =>
    obtain ⟨t, rfl⟩ := (show ∃ t, v = Value.int i t from rx)
    exact wpAny_is_other rfl (fun z => by cases z) ⟨.bl false, H, I, rfl, no (.int i) (fun z => by cases z) q⟩
  | str i =>
    obtain ⟨t, rfl⟩ := (show ∃ t, v = Value.str i t from rx)
    exact wpAny_is_other rfl (fun z => by cases z) ⟨.bl false, H, I, rfl, no (.str i) (fun z => by cases z) q⟩
  | ref a =>
    cases (show v = Value.ref a from rx)
    exact wpAny_is_other rfl (fun z => by cases z) ⟨.bl false, H, I, rfl, no (.ref a) (fun z => by cases z) q⟩
  | _ => exact hk.elim
end K18
set_option Elab.async false
set_option linter.all false
set_option maxRecDepth 100000
set_option maxHeartbeats 4000000
namespace K18
open PySem PySem.Spec PyProof.Rows L2 Kb
theorem catB {H : Hp} {p1 p2 : Addr} {v1 v2 : List V} {Q : VK} (e1 : H p1 = some (.lst v1)) (e2 : H p2 = some (.lst v2)) (hl : v1.length + v2.length ≤ 2000000) (q : ∀ p, H p = none → Q (.ref p) (upd H p (.lst (v1 ++ v2)))) : rCat (.ref p1) (.ref p2) H Q :=
  ⟨p1, p2, v1, v2, rfl, rfl, e1, e2, by rw [sizeLine_eq]; omega, q⟩
theorem ix_sabc : ∀ n : Fin 26, Builtin.Str.occurrences (" abcdefghijklmnopqrstuvwxyz" : Str) (⟨#[97 + n.val]⟩ : Str) 0 (" abcdefghijklmnopqrstuvwxyz" : Str).length 1 = [n.val + 1] := by decide +kernel
theorem cut_last (xs : List V) (y : V) : cutV (xs ++ [y]) none (some (-1)) = xs := by
  unfold cutV
  rw [HT.sIx_none, List.drop_zero, Nat.sub_zero]
  have : HT.sIx (xs ++ [y]).length (xs ++ [y]).length (some (-1)) = xs.length := by
    show (if (-1 : Int) < 0 then ((-1 : Int) + ((xs ++ [y]).length : Int)).toNat else min (-1 : Int).toNat (xs ++ [y]).length) = _
    rw [if_pos (by decide), List.length_append]
    show ((-1 : Int) + ((xs.length + 1 : Nat) : Int)).toNat = _
    omega
  rw [this, List.take_left]
theorem at_last (xs : List V) (y : V) : atI (xs ++ [y]) (-1) = some y := by
  have hlen : (xs ++ [y]).length = xs.length + 1 := by rw [List.length_append]; rfl
  have hix : ixN (xs.length + 1) (-1) = some xs.length := by
    unfold ixN
    rw [if_neg (by omega), if_pos (by omega)]
    congr 1
    omega
  show (ixN ((xs ++ [y]).length) (-1)).bind (fun j => (xs ++ [y])[j]?) = _
  rw [hlen, hix]
  show (xs ++ [y])[xs.length]? = _
  rw [List.getElem?_append_right (Nat.le_refl _), Nat.sub_self]
  rfl
theorem strEq {x y : Str} (e : decide (V.str x = V.str y) = true) : x = y := by
  have := of_decide_eq_true e
  injection this
section
variable {P : Program} {w : World} {K : PySem.W.Frag} {mg : Str → Option Value} {base : Heap}
/-! ### _law_tree_cells -/
def spLTC (n : Nat) : Sp := fun vs H Q _ => ∃ S x d, vs = [x] ∧ Da S H x d ∧ isTree n d = true ∧ sz d ≤ 900000 ∧ ∀ H' p, Kp [] H H' → H p = none → H' p = some (.lst ((cellsOf d).map V.int)) → Q (.ref p) H'
theorem ok_ltc_step {f : Addr} {fd : FuncData} {k : Nat} (n : Nat) (sp0 : Sp) (h0 : ∀ m, n = m + 1 → sp0 = spLTC m) (F : Fun K "_law_tree_cells" "_law_tree_cells" s_l_tree_cells f fd) (T : Bi mg)
    (b0 : Binds K fd ["tree"] []) (g0 : mg "_law_tree_cells" = some (.ref f)) (G0 : FnOk P w K mg base CX0 (k + n) f fd ["tree"] sp0) :
    FnOk P w K mg base CX0 (k + 1 + n) f fd ["tree"] (spLTC n) := by
  rw [show k + 1 + n = k + n + 1 by omega]
  refine F.ok sc_l_tree_cells (fun vs H Q E h => ?_) (fun cdv A outer s H vs Q E hr h => ?_)
  · obtain ⟨_, _, _, rfl, _⟩ := h
    rfl
  · obtain ⟨S, x, d, rfl, hx, ht, hsz, q⟩ := h
    refine ⟨_, (pss_cons (ps_if (PW.pt (pw_or (pt_cmpR op_isN (pv 0) pe_non (nomark _)) (pw_or (pt_cmpR op_isBo (pv 0) pe_bl (nomark _)) (pw_or1 (pt_cmpR op_isBo (pv 0) pe_bl (nomark _)))))) (pss_one (ps_ret (pe_lst (pa_cons (pe_ifExp (pt_cmpR op_isN (pv 0) pe_non (nomark _)) pe_int (pe_ifExp (pt_truth (pv 0) (fun _ => rfl)) pe_int pe_int)) pa_nil)))) pss_nil)
      (pss_cons (ps_if (pt_val (pe_callB call_isi (by rfl) T.m_isinstance (by decide +kernel) (pa_cons (pv 0) (pa_cons (pe_bltn (v := .ty "tuple") (by rfl) T.m_tuple (by decide +kernel) rfl) pa_nil)))) (pss_cons (ps_set (i := 1) sc_l_tree_cells.nd rfl (.inl rfl) (pe_lst (pa_cons pe_int pa_nil)))
        (pss_cons (ps_for PassesOwn.never rfl (pi_tup (pv 0)) (pg_name (i := 2) sc_l_tree_cells.nd rfl (.inl rfl)) (pss_one (ps_set (i := 1) sc_l_tree_cells.nd rfl (.inl rfl) (pe_op op_cat (pv 1) (pe_call G0 hr (by rfl) g0 F.kp b0 .nil pass0 (pa_cons (pv 2) pa_nil))))))
        (pss_one (ps_ret (pe_op op_cat (pv 1) (pe_lst (pa_cons pe_int pa_nil))))))) pss_nil)
      (pss_cons (ps_if (pt_val (pe_callB call_isi (by rfl) T.m_isinstance (by decide +kernel) (pa_cons (pv 0) (pa_cons (pe_bltn (v := .ty "str") (by rfl) T.m_str (by decide +kernel) rfl) pa_nil)))) (pss_cons (ps_setLc (i := 3) (own := [("sign", 5)]) (g := gName 5) (te := tBM K "str" rSIdx (tC (.str " abcdefghijklmnopqrstuvwxyz")) (tCons (tVar 5) tNil)) (by rfl) sc_l_tree_cells.nd rfl rfl (sw_true rfl rfl (by rfl) (by decide +kernel)) (pi_str (pv 0)) (blkOk_by (own := [("sign", 5)]) (N := ["tree", "cells", "part", "letters", "high", "sign"]) (sc := defScope s_l_tree_cells) (by decide +kernel)) (fun _ _ _ _ _ => pg_name (i := 5) sc_l_tree_cells.nd rfl (.inl rfl)) (fun _ _ _ _ _ => pts_nil) (fun _ _ _ _ _ => by exact pe_bm PySem.F.plainAttrs_str PySem.F.slot_str_index PySem.F.type_str_index mt_sidx pe_str (pa_cons (pv 5) pa_nil)))
        (pss_one (ps_ret (pe_ifExp (pt_cmpR op_ne (pv 0) pe_str (nomark _)) (pe_op op_cat (pe_slice sl_list (pv 3) po_none (po_some (pe_un un_neg pe_int))) (pe_lst (pa_cons (pe_op op_add (pe_ix ix_seq (pv 3) (pe_un un_neg pe_int) (fun _ _ => rfl)) pe_int) pa_nil))) (pe_lst (pa_cons pe_int pa_nil)))))) pss_nil)
      (pss_cons (ps_set (i := 4) sc_l_tree_cells.nd rfl (.inl rfl) (pe_ifExp (pt_cmpR op_ge (pv 0) pe_int (nomark _)) (pe_lst (pa_cons (pe_op op_add (pe_op op_fdiv (pv 0) pe_int) pe_int) (pa_cons (pe_op op_add (pe_op op_mod (pe_op op_fdiv (pv 0) pe_int) pe_int) pe_int) pa_nil))) (pe_ifExp (pt_cmpR op_ge (pv 0) pe_int (nomark _)) (pe_lst (pa_cons (pe_op op_add (pe_op op_fdiv (pv 0) pe_int) pe_int) pa_nil)) (pe_lst pa_nil))))
      (pss_one (ps_ret (pe_op op_cat (pe_op op_cat (pe_lst (pa_cons pe_int pa_nil)) (pv 4)) (pe_lst (pa_cons (pe_op op_mod (pe_callTy call_int1 (by rfl) T.m_int (by decide +kernel) (pa_cons (pv 0) pa_nil)) pe_int) pa_nil))))))))), ?_⟩
    have hxx := hx
    have one : ∀ (i : Int), cellsOf d = [i] → ∀ H1, Kp [] H H1 → ∀ p, H1 p = none → Q (.ref p) (upd H1 p (.lst [.int i])) := fun i h1 H1 k1 p np => by
      refine q _ p (k1.trans (Kp.new np)) (k1.none List.not_mem_nil np) ?_
      rw [upd_same, h1]
      rfl
    cases hx with
    | non =>
      refine ⟨.non, rfl, rfl, _, rfl, ite2 (fun _ => ?_) (fun z => absurd (decide_eq_true rfl) z)⟩
      refine ite2 (fun _ => ?_) (fun z => absurd rfl z)
      refine ⟨.non, rfl, rfl, _, rfl, ite2 (fun _ => ?_) (fun z => absurd (decide_eq_true rfl) z)⟩
      exact ⟨small (by show 1 ≤ 1000; omega), fun p np => one 29 rfl H .refl p np⟩
    | bl b =>
      refine ⟨.bl b, rfl, rfl, _, rfl, ite2 (fun z => by cases of_decide_eq_true z) (fun _ => ?_)⟩
      cases b with
      | true =>
        refine ⟨.bl true, rfl, true, rfl, trivial, _, rfl, ite2 (fun _ => ?_) (fun z => absurd (decide_eq_true rfl) z)⟩
        refine ite2 (fun _ => ?_) (fun z => absurd rfl z)
        refine ⟨.bl true, rfl, rfl, _, rfl, ite2 (fun z => by cases of_decide_eq_true z) (fun _ => ?_)⟩
        refine ⟨.bl true, rfl, true, rfl, ite2 (fun _ => ?_) (fun z => absurd rfl z)⟩
        exact ⟨small (by show 1 ≤ 1000; omega), fun p np => one 31 rfl H .refl p np⟩
      | false =>
        refine ⟨.bl false, rfl, true, rfl, trivial, _, rfl, ite2 (fun z => by cases of_decide_eq_true z) (fun _ => ?_)⟩
        refine ⟨.bl false, rfl, false, rfl, trivial, _, rfl, ite2 (fun _ => ?_) (fun z => absurd (decide_eq_true rfl) z)⟩
        refine ⟨.bl false, rfl, rfl, _, rfl, ite2 (fun z => by cases of_decide_eq_true z) (fun _ => ?_)⟩
        refine ⟨.bl false, rfl, false, rfl, ite2 (fun z => by cases z) (fun _ => ?_)⟩
        exact ⟨small (by show 1 ≤ 1000; omega), fun p np => one 30 rfl H .refl p np⟩
    | int i =>
      have hi : 0 ≤ i ∧ i ≤ 32767 := by
        have : isTree n (.int i) = (decide (0 ≤ i) && decide (i ≤ 32767)) := by cases n <;> rfl
        rw [this] at ht
        simpa using ht
      refine ⟨.int i, rfl, rfl, _, rfl, ite2 (fun z => by cases of_decide_eq_true z) (fun _ => ?_)⟩
      refine ⟨.int i, rfl, true, rfl, trivial, _, rfl, ite2 (fun z => by cases of_decide_eq_true z) (fun _ => ?_)⟩
      refine ⟨.int i, rfl, false, rfl, trivial, _, rfl, ite2 (fun z => by cases of_decide_eq_true z) (fun _ => ?_)⟩
      refine ⟨.int i, rfl, _, _, _, _, _, rfl, .ty _, hxx.ty, kit_ty (k_tup _ hxx.nd), _, rfl, ite2 (fun z => by cases z) (fun _ => ?_)⟩
      refine ⟨.int i, rfl, _, _, _, _, _, rfl, .ty _, hxx.ty, kit_ty (k_str _ hxx.nd), _, rfl, ite2 (fun z => by cases z) (fun _ => ?_)⟩
      have d1024 : CDiv i 1024 := ⟨(show (0 : Int) < 1024 by decide), (show (1024 : Int) < 1073741824 by decide)⟩
      have d32 : CDiv i 32 := ⟨(show (0 : Int) < 32 by decide), (show (32 : Int) < 1073741824 by decide)⟩
      have fin : ∀ (H1 : Hp) (hp : Addr) (hi' : List Int), Kp [] H H1 → H1 hp = some (.lst (hi'.map V.int)) → hi'.length ≤ 3 → cellsOf (.int i) = (59 :: hi') ++ [i % 32] →
          ∃ t : TE, t = (tOp rCat (tOp rCat (tLst (tCons (tC (.int 59)) tNil)) (tVar 4)) (tLst (tCons (tOp (rI (fun _ j => 0 < j) fun i j => .int (i % j)) (tCB (fun xs H Q => (∃ i, xs = [.int i] ∧ Q (.int i) H) ∨ ∃ k, xs = [.bl k] ∧ Q (.int (if k then 1 else 0)) H) (tCons (tVar 0) tNil)) (tC (.int 32))) tNil))) ∧
            ∀ σ : L2.St, σ[0]? = some (some (.int i)) → σ[4]? = some (some (.ref hp)) → t σ H1 Q := fun H1 hp hi' k1 e1 hl hc => by
        refine ⟨_, rfl, fun σ s0 s4 => ?_⟩
        refine ⟨small (by show 1 ≤ 1000; omega), fun p np => ?_⟩
        refine ⟨.ref hp, s4, ?_⟩
        have e1' := (Kp.new (S := []) (o := .lst [.int 59]) np) hp _ e1 (.inr List.not_mem_nil)
        refine catB upd_same e1' (by rw [List.length_map]; show 1 + _ ≤ _; omega) fun p2 np2 => ?_
        refine ⟨.int i, s0, .inl ⟨i, rfl, i, 32, rfl, rfl, (show (0 : Int) < 32 by decide), small (by show 1 ≤ 1000; omega), fun p3 np3 => ?_⟩⟩
        have k3 := ((Kp.new (S := []) (o := .lst [.int 59]) np).trans (Kp.new (o := .lst ([.int 59] ++ hi'.map V.int)) np2)).trans (Kp.new (o := .lst [.int (i % 32)]) np3)
        refine catB (by rw [upd_ne (fun z => by rw [← z, upd_same] at np3; cases np3), upd_same]) upd_same (by simp; omega) fun p4 np4 => ?_
        refine q _ p4 ((k1.trans k3).trans (Kp.new np4)) ((k1.trans k3).none List.not_mem_nil np4) ?_
        rw [upd_same, hc, List.map_append]
        rfl
      by_cases g1 : 1024 ≤ i
      · refine ⟨.int i, rfl, i, 1024, rfl, rfl, _, rfl, ite2 (fun _ => ?_) (fun z => absurd (decide_eq_true (show i ≥ 1024 from g1)) z)⟩
        refine ⟨.int i, rfl, i, 1024, rfl, rfl, d1024, _, 32, rfl, rfl, .int i, rfl, i, 32, rfl, rfl, d32, _, 32, rfl, rfl, (show (0 : Int) < 32 by decide), _, 32, rfl, rfl, small (by show 2 ≤ 1000; omega), fun p np => ?_⟩
        obtain ⟨t, rfl, ht'⟩ := fin (upd H p (.lst [.int (i / 1024 + 32), .int (i / 32 % 32 + 32)])) p [i / 1024 + 32, i / 32 % 32 + 32] (Kp.new np) upd_same (by simp) (by unfold cellsOf numCells; rw [if_pos g1]; rfl)
        exact ht' _ rfl rfl
      · refine ⟨.int i, rfl, i, 1024, rfl, rfl, _, rfl, ite2 (fun z => absurd (of_decide_eq_true z) g1) (fun _ => ?_)⟩
        by_cases g2 : 32 ≤ i
        · refine ⟨.int i, rfl, i, 32, rfl, rfl, _, rfl, ite2 (fun _ => ?_) (fun z => absurd (decide_eq_true (show i ≥ 32 from g2)) z)⟩
          refine ⟨.int i, rfl, i, 32, rfl, rfl, d32, _, 32, rfl, rfl, small (by show 1 ≤ 1000; omega), fun p np => ?_⟩
          obtain ⟨t, rfl, ht'⟩ := fin (upd H p (.lst [.int (i / 32 + 32)])) p [i / 32 + 32] (Kp.new np) upd_same (by simp) (by unfold cellsOf numCells; rw [if_neg g1, if_pos g2]; rfl)
          exact ht' _ rfl rfl
        · refine ⟨.int i, rfl, i, 32, rfl, rfl, _, rfl, ite2 (fun z => absurd (of_decide_eq_true z) g2) (fun _ => ?_)⟩
          refine ⟨small (by show 0 ≤ 1000; omega), fun p np => ?_⟩
          obtain ⟨t, rfl, ht'⟩ := fin (upd H p (.lst [])) p [] (Kp.new np) upd_same (by simp) (by unfold cellsOf numCells; rw [if_neg g1, if_neg g2]; rfl)
          exact ht' _ rfl rfl
    | str z =>
      have hw : isWord z = true := by
        have : isTree n (.str z) = isWord z := by cases n <;> rfl
        rw [this] at ht
        exact ht
      obtain ⟨hz8, hall⟩ := Bool.and_eq_true_iff.mp hw
      have hz8 := of_decide_eq_true hz8
      have hsz' : z.cps.size = z.cps.toList.length := (Array.length_toList).symm
      have hlow : ∀ c ∈ z.cps.toList, 97 ≤ c ∧ c ≤ 122 := fun c m => by
        have := List.all_eq_true.mp hall c m
        simpa using this
      refine ⟨.str z, rfl, rfl, _, rfl, ite2 (fun z => by cases of_decide_eq_true z) (fun _ => ?_)⟩
      refine ⟨.str z, rfl, true, rfl, trivial, _, rfl, ite2 (fun z => by cases of_decide_eq_true z) (fun _ => ?_)⟩
      refine ⟨.str z, rfl, false, rfl, trivial, _, rfl, ite2 (fun z => by cases of_decide_eq_true z) (fun _ => ?_)⟩
      refine ⟨.str z, rfl, _, _, _, _, _, rfl, .ty _, hxx.ty, kit_ty (k_tup _ hxx.nd), _, rfl, ite2 (fun z => by cases z) (fun _ => ?_)⟩
      refine ⟨.str z, rfl, _, _, _, _, _, rfl, .ty _, hxx.ty, kit_ty (k_str _ hxx.nd), _, rfl, ite2 (fun _ => ?_) (fun z => absurd rfl z)⟩
      refine ⟨.str z, rfl, z, rfl, fun D nD => ?_⟩
      refine lc_by (J := Its z) (vs := [5]) (D := D) (H0 := upd H D (.lst [])) (n := z.cps.toList.length) (fun i H4 => H4 = upd H D (.lst ((z.cps.toList.take i).map fun c => V.int (lw c)))) rfl ?_ ?_
      · rintro i H4 hi ⟨rfl⟩
        refine ⟨by show i < z.cps.size; rw [hsz']; exact hi, ?_⟩
        rintro v H5 ⟨rfl, c, hcc, rfl⟩
        have hc' : z.cps.toList[i]? = some c := by
          rw [Array.getElem?_toList]
          exact hcc
        have hb := hlow c (List.mem_of_getElem? hc')
        obtain ⟨m, hn⟩ : ∃ m, c = 97 + m := ⟨c - 97, by omega⟩
        have hocc := ix_sabc ⟨m, by omega⟩
        refine ⟨rfl, rfl, .str ⟨#[c]⟩, rfl, _, _, m + 1, [], rfl, rfl, by rw [hn]; exact hocc, _, upd_same, ?_, ?_⟩
        · rw [List.length_map, List.length_take, sizeLine_eq]
          have : z.cps.toList.length ≤ 8 := by rw [Array.length_toList]; exact hz8
          omega
        · rw [upd_upd, List.take_add_one, hc', List.map_append]
          show upd H D (.lst (_ ++ [V.int ((m + 1 : Nat) : Int)])) = upd H D (.lst (_ ++ [V.int (lw c)]))
          rw [show ((m + 1 : Nat) : Int) = lw c by unfold lw; omega]
      · rintro H4 ⟨rfl⟩
        refine ⟨by show z.cps.size ≤ _; rw [hsz']; exact Nat.le_refl _, ?_⟩
        rw [List.take_length]
        cases hrev : z.cps.toList.reverse with
        | nil =>
          have hnil : z.cps.toList = [] := List.reverse_eq_nil_iff.mp hrev
          have hz : z = ("" : Str) := by rw [← word_eq (x := z), hnil]; rfl
          refine ⟨.str z, rfl, rfl, _, rfl, ?_⟩
          rw [hz]
          refine ite2 (fun e => by cases e) (fun _ => ?_)
          refine ⟨small (by show 1 ≤ 1000; omega), fun p np => ?_⟩
          refine q _ p ((Kp.new nD).trans (Kp.new np)) ((Kp.new (S := []) nD).none List.not_mem_nil np) ?_
          rw [upd_same, hz]
          rfl
        | cons l r =>
          have hcons : z.cps.toList = r.reverse ++ [l] := by rw [← List.reverse_reverse z.cps.toList, hrev, List.reverse_cons]
          have hcl : (z.cps.toList.map fun c => V.int (lw c)) = (r.reverse.map fun c => V.int (lw c)) ++ [V.int (lw l)] := by rw [hcons, List.map_append]; rfl
          have hr8 : r.length ≤ 8 := by
            have := congrArg List.length hcons
            rw [List.length_append, List.length_reverse, Array.length_toList] at this
            have h2 : z.length = r.length + 1 := this
            omega
          rw [hcl]
          refine ⟨.str z, rfl, rfl, _, rfl, ite2 (fun _ => ?_) (fun e => ?_)⟩
          · refine ⟨.ref D, rfl, 1, rfl, _, rfl, D, _, rfl, sqL upd_same, fun p np => ?_⟩
            rw [cut_last]
            have eD : (upd (upd H D (.lst ((r.reverse.map fun c => V.int (lw c)) ++ [V.int (lw l)]))) p (.lst (r.reverse.map fun c => V.int (lw c)))) D = some (.lst ((r.reverse.map fun c => V.int (lw c)) ++ [V.int (lw l)])) := by
              rw [upd_ne (fun e => by rw [← e, upd_same] at np; cases np), upd_same]
            refine ⟨.ref D, rfl, 1, rfl, .inl ⟨D, _, -1, _, rfl, rfl, sqL eD, at_last _ _, lw l, 32, rfl, rfl, small (by show 1 ≤ 1000; omega), fun p2 np2 => ?_⟩⟩
            refine catB (by rw [upd_ne (fun e => by rw [← e, upd_same] at np2; cases np2), upd_same]) upd_same (by simp; omega) fun p4 np4 => ?_
            have k3 := (((Kp.new (S := []) nD).trans (Kp.new (o := .lst (r.reverse.map fun c => V.int (lw c))) np)).trans (Kp.new (o := .lst [.int (lw l + 32)]) np2))
            refine q _ p4 (k3.trans (Kp.new np4)) (k3.none List.not_mem_nil np4) ?_
            rw [upd_same]
            show _ = some (HO.lst ((wordCells z.cps.toList).map V.int))
            unfold wordCells
            rw [hrev]
            dsimp only
            rw [List.map_append, List.map_map]
            rfl
          · exfalso
            have hz : z = ("" : Str) := by
              cases hd : decide (V.str z = V.str "") with
              | true => exact strEq hd
              | false =>
                refine absurd ?_ e
                show (!decide (V.str z = V.str "")) = true
                rw [hd]
                rfl
            rw [hz] at hcons
            have := congrArg List.length hcons
            rw [List.length_append] at this
            have h0 : ("" : Str).cps.toList.length = 0 := rfl
            rw [h0] at this
            have h1 : 0 = r.reverse.length + 1 := this
            omega
    | @lst a xs ds ea na hD => cases n <;> cases ht
    | @tup a xs ds ea hD =>
      obtain ⟨m, rfl⟩ : ∃ m, n = m + 1 := by
        cases n with
        | zero => cases ht
        | succ m => exact ⟨m, rfl⟩
      obtain rfl := h0 m rfl
      have ht : areTrees m ds = true := ht
      have hsz : 20 + szs ds ≤ 900000 := hsz
      have len1 := cellsAll_len ds
      refine ⟨.ref a, rfl, rfl, _, rfl, ite2 (fun z => by cases of_decide_eq_true z) (fun _ => ?_)⟩
      refine ⟨.ref a, rfl, true, rfl, trivial, _, rfl, ite2 (fun z => by cases of_decide_eq_true z) (fun _ => ?_)⟩
      refine ⟨.ref a, rfl, false, rfl, trivial, _, rfl, ite2 (fun z => by cases of_decide_eq_true z) (fun _ => ?_)⟩
      refine ⟨.ref a, rfl, _, _, _, _, _, rfl, .ty _, hxx.ty, kit_ty (k_tup _ hxx.nd), _, rfl, ite2 (fun _ => ?_) (fun z => absurd rfl z)⟩
      refine ⟨small (by show 1 ≤ 1000; omega), fun l nl => ?_⟩
      refine ⟨.ref a, rfl, a, rfl, ⟨xs, sqT ((Kp.new (S := []) nl).tup ea)⟩, ?_⟩
      refine for_tup (xs := xs) (fun i σ H' => ∃ y2 y3 y4 y5 p, σ = [some (.ref a), some (.ref p), y2, y3, y4, y5] ∧ Kp [] H H' ∧ H p = none ∧ H' p = some (.lst (((27 : Int) :: cellsAll (ds.take i)).map V.int)))
        ⟨_, _, _, _, l, rfl, Kp.new nl, nl, upd_same⟩ (fun i σ H' _ ⟨_, _, _, _, _, _, k, _⟩ => sqT (k.tup ea)) ?_ ?_
      · rintro i xi σ H2 ei ⟨y2, y3, y4, y5, p, rfl, k2, np, el⟩
        have hi : i < xs.length := (List.getElem?_eq_some_iff.mp ei).1
        obtain ⟨x', dv, gx, gd, dx⟩ := hD.get i hi
        cases ei.symm.trans gx
        have hdm := szs_mem (List.mem_of_getElem? gd)
        have hit : isTree m dv = true := by
          cases h : isTree m dv with
          | true => rfl
          | false =>
            rw [areTrees_no gd h] at ht
            cases ht
        refine ⟨.ref p, rfl, xi, rfl, S, xi, dv, rfl, dx.kp k2.of, hit, by omega, fun H3 p3 k3 n3 e3 => ?_⟩
        have el3 := k3 p _ el (.inr List.not_mem_nil)
        have len2 := szs_take ds i
        have len3 := cellsAll_len (ds.take i)
        have len4 := cellsOf_len dv
        refine catB el3 e3 (by rw [List.length_map, List.length_map]; show (cellsAll (ds.take i)).length + 1 + _ ≤ _; omega) fun p4 np4 => ?_
        refine ⟨_, _, _, _, p4, rfl, (k2.trans k3).trans (Kp.new np4), (k2.trans k3).none List.not_mem_nil np4, ?_⟩
        rw [upd_same, ← List.map_append, List.take_add_one, gd, cellsAll_app]
        show _ = some (HO.lst (((27 : Int) :: (cellsAll (ds.take i) ++ (cellsOf dv ++ []))).map V.int))
        rw [List.append_nil]
        rfl
      · rintro σ H2 ⟨y2, y3, y4, y5, p, rfl, k2, np, el⟩
        rw [hD.len, List.take_length] at el
        refine ⟨.ref p, rfl, small (by show 1 ≤ 1000; omega), fun p3 np3 => ?_⟩
        have k3 : Kp [] H2 (upd H2 p3 (.lst [.int 28])) := Kp.new np3
        refine catB (k3 p _ el (.inr List.not_mem_nil)) upd_same (by rw [List.length_map]; show (cellsAll ds).length + 1 + 1 ≤ _; omega) fun p4 np4 => ?_
        refine q _ p4 ((k2.trans k3).trans (Kp.new np4)) ((k2.trans k3).none List.not_mem_nil np4) ?_
        rw [upd_same]
        unfold cellsOf
        rw [show (27 :: (cellsAll ds ++ [28])) = ((27 : Int) :: cellsAll ds) ++ [28] from rfl, List.map_append]
        rfl
end
end K18
set_option Elab.async false
set_option linter.all false
set_option maxRecDepth 100000
set_option maxHeartbeats 4000000
namespace K18
open PySem PySem.Spec PyProof.Rows L2 Kb
def rMi : R2 := rI0 fun i j => .int (i - j)
def rNoIn : R2 := fun x y H Q => ∃ i j, x = .str i ∧ y = .str j ∧ Q (.bl (!(!(Builtin.Str.occurrences j i 0 j.length 1).isEmpty))) H
theorem op_noin {X : Cx} : OpR X (compareOp .NotIn) rNoIn := op_notin_str
theorem eqv_nilL (ds : List PyData) : PyData.eqv (.list ds) (.list []) = ds.isEmpty := by
  cases ds <;> rfl
theorem shaped_mk {d : PyData} (h1 : d.canLay0 = true) (h2 : d.depth ≤ 64) : SeqAt.shaped d = true := by
  unfold SeqAt.shaped
  rw [h1, decide_eq_true h2]
  rfl
theorem okL_at {n : Nat} {ds : List PyData} (h1 : PyData.canLayAll0 ds = true) (h2 : PyData.depthAll ds ≤ n) : okL n ds := by
  induction ds with
  | nil => exact fun _ m => absurd m List.not_mem_nil
  | cons d ds ih =>
    have h1 : (PyData.canLay0 d && PyData.canLayAll0 ds) = true := h1
    have h2 : max (PyData.depth d) (PyData.depthAll ds) ≤ n := h2
    obtain ⟨a, b⟩ := Bool.and_eq_true_iff.mp h1
    obtain ⟨c, e⟩ := Nat.max_le.mp h2
    intro x m
    rcases List.mem_cons.mp m with rfl | m
    · exact ⟨a, c⟩
    · exact ih b e x m
theorem shaped_list {n : Nat} {ds : List PyData} (h : okL n ds) (hn : n + 1 ≤ 64) : SeqAt.shaped (.list ds) = true := by
  obtain ⟨a, b⟩ := okL_all h
  exact shaped_mk a (by show PyData.depthAll ds + 1 ≤ 64; omega)
theorem okL_of {n : Nat} {ds : List PyData} (h1 : (PyData.tuple ds).canLay0 = true) (h2 : (PyData.tuple ds).depth ≤ n + 1) : okL n ds := okL_at h1 (by
  have : PyData.depthAll ds + 1 ≤ n + 1 := h2
  omega)
theorem strOk_one {z : Str} {c : Nat} (h : (PyData.str z).canLay0 = true) (m : c ∈ z.cps.toList) : PySem.PyData.strOk (⟨#[c]⟩ : Str) = true := by
  have h : z.cps.all (fun x => decide (x < 0x110000)) = true := h
  have hc : c < 0x110000 := by
    have := Array.all_eq_true'.mp h c (by simpa using m)
    simpa using this
  show (#[c] : Array Nat).all (fun x => decide (x < 0x110000)) = true
  simp [hc]
theorem dpStrs {K : PySem.W.Frag} {H : Hp} : ∀ ws : List Str, DpAll K H (ws.map V.str) (ws.map PyData.str)
  | [] => .nil
  | w0 :: ws => .cons (.str w0) (dpStrs ws)
end K18
set_option Elab.async false
set_option linter.all false
set_option maxRecDepth 100000
set_option maxHeartbeats 4000000
namespace K18
open PySem PySem.Spec PyProof.Rows L2 Kb
/-- how great, how many draws -/
def bd : Nat → Nat
  | 0 => 30
  | 1 => 120
  | 2 => 390
  | 3 => 1200
  | n + 4 => 1200 + (n + 1) * 2430
theorem bd_step : ∀ n, 30 + bd n + 2 * bd (min n 3) ≤ bd (n + 1)
  | 0 => by decide
  | 1 => by decide
  | 2 => by decide
  | 3 => by decide
  | n + 4 => by
    rw [show min (n + 4) 3 = 3 by omega]
    show 30 + (1200 + (n + 1) * 2430) + 2 * 1200 ≤ 1200 + (n + 1 + 1) * 2430
    omega
theorem bd_le (n : Nat) : bd n ≤ bd (n + 1) := by
  have := bd_step n
  omega
theorem bd_mono {m n : Nat} (h : m ≤ n) : bd m ≤ bd n := by
  induction h with
  | refl => exact Nat.le_refl _
  | step _ ih => exact Nat.le_trans ih (bd_le _)
theorem bd_12 : bd 12 ≤ 30000 := by decide +kernel
theorem bd_pos (n : Nat) : 30 ≤ bd n := by
  have : bd 0 ≤ bd n := bd_mono (Nat.zero_le n)
  exact this
def oneS (c : Nat) : Str := ⟨#[c]⟩
theorem join_ones : ∀ cs : List Nat, Txt.join ("" : Str) (cs.map oneS) = wStr cs := by
  intro cs
  rw [TL.join_eq]
  induction cs with
  | nil => rfl
  | cons c r ih =>
    cases r with
    | nil => rfl
    | cons c2 r2 =>
      show oneS c ++ ("" : Str) ++ Str.join ("" : Str) ((c2 :: r2).map oneS) = _
      rw [ih]
      show (⟨(#[c] ++ #[]) ++ (c2 :: r2).toArray⟩ : Str) = ⟨(c :: c2 :: r2).toArray⟩
      congr 1
      simp
theorem isTree_mono : ∀ {d : PyData} {n m : Nat}, n ≤ m → isTree n d = true → isTree m d = true
  | .none, n, m, _, _ => by cases m <;> rfl
  | .bool _, n, m, _, _ => by cases m <;> rfl
  | .int i, n, m, _, h => by
    have e : ∀ k, isTree k (.int i) = (decide (0 ≤ i) && decide (i ≤ 32767)) := fun k => by cases k <;> rfl
    rw [e] at h ⊢
    exact h
  | .str x, n, m, _, h => by
    have e : ∀ k, isTree k (.str x) = isWord x := fun k => by cases k <;> rfl
    rw [e] at h ⊢
    exact h
  | .tuple ds, 0, m, _, h => by cases h
  | .tuple ds, n + 1, 0, hm, h => by omega
  | .tuple ds, n + 1, m + 1, hm, h => go ds (by omega) h
  | .list _, n, m, _, h => by cases n <;> cases h
  | .dict _, n, m, _, h => by cases n <;> cases h
where
  go : ∀ (ds : List PyData) {n m : Nat}, n ≤ m → areTrees n ds = true → areTrees m ds = true
  | [], _, _, _, _ => by unfold areTrees; rfl
  | d :: ds, n, m, hm, h => by
    unfold areTrees at h ⊢
    obtain ⟨h1, h2⟩ := Bool.and_eq_true_iff.mp h
    rw [isTree_mono hm h1, go ds hm h2]
    rfl
theorem Da.flat {H : Hp} {v : V} {d : PyData} (h : Da [] H v d) (hf : ∀ xs, d ≠ .tuple xs) (hl : ∀ xs, d ≠ .list xs) : ∀ H' S, Da S H' v d := by
  intro H' S
  cases h with
  | non => exact .non
  | bl b => exact .bl b
  | int i => exact .int i
  | str x => exact .str x
  | lst _ _ _ => exact absurd rfl (hl _)
  | tup _ _ => exact absurd rfl (hf _)
section
variable {P : Program} {w : World} {K : PySem.W.Frag} {mg : Str → Option Value} {base : Heap}
/-! ### _law_leaf -/
def spLeaf : Sp := fun vs H Q _ => ∃ d w c N, vs = [.ref d] ∧ Dr H d w c N ∧ N ≤ 100000000 ∧ ∀ H' x t, Kp [d, w] H H' → Dr H' d w c (N + 15) → (∀ S, Da S H' x t) → isTree 0 t = true → sz t ≤ 30 → Q x H'
theorem ok_leaf {f f1 f2 : Addr} {fd fd1 fd2 : FuncData} {k : Nat} (F : Fun K "_law_leaf" "_law_leaf" s_l_leaf f fd) (T : Bi mg)
    (F1 : Fun K "_law_take" "_law_take" s_l_take f1 fd1) (b1 : Binds K fd1 ["draw", "many"] []) (g1 : mg "_law_take" = some (.ref f1)) (G1 : FnOk P w K mg base CX0 (k + 2) f1 fd1 ["draw", "many"] spTake)
    (F2 : Fun K "_law_pick" "_law_pick" s_l_pick f2 fd2) (b2 : Binds K fd2 ["draw", "some"] []) (g2 : mg "_law_pick" = some (.ref f2)) (G2 : FnOk P w K mg base CX0 (k + 3) f2 fd2 ["draw", "some"] (spPick K)) :
    FnOk P w K mg base CX0 (k + 4) f fd ["draw"] spLeaf := by
  refine F.ok sc_l_leaf (fun vs H Q E h => ?_) (fun cdv A outer s H vs Q E hr h => ?_)
  · obtain ⟨_, _, _, _, rfl, _⟩ := h
    rfl
  · obtain ⟨d, w, c, N, rfl, hD, hN, q⟩ := h
    refine ⟨_, (pss_cons (ps_set (i := 1) sc_l_leaf.nd rfl (.inl rfl) (pe_call G1 (hr.mono (by omega)) (by rfl) g1 F1.kp b1 .nil pass0 (pa_cons (pv 0) (pa_cons pe_int pa_nil))))
      (pss_cons (ps_if (pt_cmpR op_lt (pv 1) pe_int (nomark _)) (pss_one (ps_ret (pe_ix ix_seq (pe_lst (pa_cons pe_non (pa_cons pe_bl (pa_cons pe_bl pa_nil)))) (pv 1) (fun _ _ => rfl)))) pss_nil)
      (pss_cons (ps_if (pt_cmpR op_eq (pv 1) pe_int (nomark _)) (pss_one (ps_ret (pe_ifExp (pt_cmpR op_eq (pe_call G1 (hr.mono (by omega)) (by rfl) g1 F1.kp b1 .nil pass0 (pa_cons (pv 0) (pa_cons pe_int pa_nil))) pe_int (nomark _)) pe_str (pe_join pe_str (pe_lc (own := [("k", 2)]) (g := gName 2) (te := tOp rIxS (tC (.str "abcdefghijklmnopqrstuvwxyz")) (tCall spTake [] E0 (tCons (tVar 0) (tCons (tC (.int 26)) tNil)))) (by rfl) sc_l_leaf.nd (pi_range1 (by rfl) T.m_range (pa_cons (pe_call G2 hr (by rfl) g2 F2.kp b2 .nil pass0 (pa_cons (pv 0) (pa_cons (pe_lst (pa_cons pe_int (pa_cons pe_int (pa_cons pe_int (pa_cons pe_int (pa_cons pe_int pa_nil)))))) pa_nil))) pa_nil)) (blkOk_by (own := [("k", 2)]) (N := ["draw", "kind", "k"]) (sc := defScope s_l_leaf) (by decide +kernel)) (fun _ _ _ _ _ => pg_name (i := 2) sc_l_leaf.nd rfl (.inl rfl)) (fun _ _ _ _ _ => pts_nil) (fun _ _ _ _ _ => by exact pe_ix ix_str pe_str (pe_call G1 (hr.mono (by omega)) (by rfl) g1 F1.kp b1 .nil pass0 (pa_cons (pv 0) (pa_cons pe_int pa_nil))) (fun _ _ => rfl))))))) pss_nil)
      (pss_one (ps_ret (pe_call G2 hr (by rfl) g2 F2.kp b2 .nil pass0 (pa_cons (pv 0) (pa_cons (pe_lst (pa_cons pe_int (pa_cons pe_int (pa_cons pe_int (pa_cons pe_int (pa_cons pe_int (pa_cons pe_int (pa_cons (pe_call G1 (hr.mono (by omega)) (by rfl) g1 F1.kp b1 .nil pass0 (pa_cons (pv 0) (pa_cons pe_int pa_nil))) (pa_cons (pe_call G1 (hr.mono (by omega)) (by rfl) g1 F1.kp b1 .nil pass0 (pa_cons (pv 0) (pa_cons pe_int pa_nil))) (pa_cons (pe_call G1 (hr.mono (by omega)) (by rfl) g1 F1.kp b1 .nil pass0 (pa_cons (pv 0) (pa_cons pe_int pa_nil))) pa_nil)))))))))) pa_nil)))))))), ?_⟩
    refine ⟨.ref d, rfl, d, w, c, N, 7, rfl, hD, by omega, by decide, by decide, fun H1 r k1 D1 r0 r7 => ?_⟩
    refine ⟨.int r, rfl, r, 3, rfl, rfl, _, rfl, ite2 (fun e => ?_) (fun e => ?_)⟩
    · have e : r < 3 := of_decide_eq_true e
      refine ⟨small (by show 3 ≤ 1000; omega), fun p np => ?_⟩
      have kk : Kp [d, w] H (upd H1 p (.lst [.non, .bl true, .bl false])) := k1.trans (Kp.new np)
      have DD := (D1.kp0 (Kp.new (o := .lst [.non, .bl true, .bl false]) np)).mono (show N + 1 ≤ N + 15 by omega)
      refine ⟨.int r, rfl, ?_⟩
      obtain ⟨n, rfl⟩ : ∃ n : Nat, r = n := ⟨r.toNat, by omega⟩
      have hn : n < 3 := by omega
      match n, hn with
      | 0, _ => exact ixE (.inl (sqL upd_same)) rfl (q _ .non .none kk DD (fun _ => .non) rfl (by decide))
      | 1, _ => exact ixE (.inl (sqL upd_same)) rfl (q _ (.bl true) (.bool true) kk DD (fun _ => .bl _) rfl (by decide))
      | 2, _ => exact ixE (.inl (sqL upd_same)) rfl (q _ (.bl false) (.bool false) kk DD (fun _ => .bl _) rfl (by decide))
    refine ⟨.int r, rfl, rfl, _, rfl, ite2 (fun e3 => ?_) (fun e3 => ?_)⟩
    · refine ⟨.ref d, rfl, d, w, c, N + 1, 4, rfl, D1, by omega, by decide, by decide, fun H2 r2 k2 D2 _ _ => ⟨rfl, _, rfl, ite2 (fun _ => ?_) (fun _ => ?_)⟩⟩
      · exact q H2 (.str "") (.str "") (k1.trans k2) (D2.mono (by omega)) (fun _ => .str _) (by decide +kernel) (by decide +kernel)
      · refine ⟨⟨_, rfl⟩, .ref d, rfl, small (by show 5 ≤ 1000; omega), fun p np => ?_⟩
        have kp : Kp [] H2 (upd H2 p (.lst [.int 1, .int 2, .int 3, .int 7, .int 8])) := Kp.new np
        refine ⟨d, w, c, N + 1 + 1, p, _, rfl, D2.kp0 kp, by omega, upd_same, D2.there np, (fun z => by cases z), (by decide), fun H3 x k3 D3 hx => ?_⟩
        obtain ⟨j, rfl, hj1, hj8⟩ : ∃ j : Nat, x = .int j ∧ 1 ≤ j ∧ j ≤ 8 := by
          simp only [List.mem_cons, List.not_mem_nil, or_false] at hx
          rcases hx with rfl | rfl | rfl | rfl | rfl
          · exact ⟨1, rfl, by decide, by decide⟩
          · exact ⟨2, rfl, by decide, by decide⟩
          · exact ⟨3, rfl, by decide, by decide⟩
          · exact ⟨7, rfl, by decide, by decide⟩
          · exact ⟨8, rfl, by decide, by decide⟩
        refine ⟨(j : Int), rfl, (by omega), (by omega), fun D nD => ?_⟩
        have kH3 : Kp [d, w] H H3 := ((k1.trans k2).trans kp.of).trans k3
        have nDdw : D ∉ [d, w] := D3.there nD
        refine lc_by (J := Itr 0 (j : Int).toNat) (vs := [2]) (D := D) (H0 := upd H3 D (.lst [])) (n := j) (fun i H4 => Kp [d, w] H3 H4 ∧ Dr H4 d w c (N + 3 + i) ∧ ∃ cs : List Nat, H4 D = some (.lst ((cs.map oneS).map V.str)) ∧ cs.length = i ∧ ∀ x ∈ cs, 97 ≤ x ∧ x ≤ 122) ⟨Kp.new nD, (D3.kp0 (Kp.new nD)).mono (by omega), [], upd_same, rfl, (fun _ m => absurd m List.not_mem_nil)⟩ ?_ ?_
        · rintro i H4 hi ⟨k4, D4, cs, eD, hl, hcs⟩
          refine ⟨by show i < (j : Int).toNat; omega, ?_⟩
          rintro v H5 ⟨rfl, rfl⟩
          refine ⟨rfl, .ref d, rfl, d, w, c, N + 3 + i, 26, rfl, D4, by omega, by decide, by decide, fun H6 r6 k6 D6 h60 h66 => ?_⟩
          obtain ⟨n, rfl⟩ : ∃ n : Nat, r6 = n := ⟨r6.toNat, by omega⟩
          have hn : n < 26 := by omega
          have hat : atI ("abcdefghijklmnopqrstuvwxyz" : Str).cps.toList ((n : Nat) : Int) = some (97 + n) := atI_at (letters_at ⟨n, hn⟩)
          have eD6 := k6 D _ eD (.inr nDdw)
          refine ⟨_, _, _, rfl, rfl, small (by decide), hat, _, eD6, ?_, ?_, ?_, cs ++ [97 + n], ?_, ?_, ?_⟩
          · rw [List.length_map, List.length_map, sizeLine_eq]
            omega
          · exact fun b o eb hb => by
              by_cases hbl : b = D
              · rw [hbl, nD] at eb
                cases eb
              · rw [upd_ne hbl]
                exact (k4.trans k6) b o eb hb
          · exact (D6.kp (kp_set eD6 rfl) (fun m => nDdw (by rw [← List.mem_singleton.mp m]; simp)) (fun m => nDdw (by rw [← List.mem_singleton.mp m]; simp)) (fun m => by
              obtain ⟨cs', ec, _⟩ := D3.cells
              rw [List.mem_singleton.mp m, nD] at ec
              cases ec)).mono (by omega)
          · rw [upd_same, List.map_append, List.map_append]
            rfl
          · rw [List.length_append, hl]
            rfl
          · intro x m
            rcases List.mem_append.mp m with m | m
            · exact hcs x m
            · rw [List.mem_singleton.mp m]
              omega
        · rintro H4 ⟨k4, D4, cs, eD, hl, hcs⟩
          refine ⟨by show (j : Int).toNat ≤ j; omega, ?_⟩
          refine ⟨"", D, cs.map oneS, rfl, rfl, .inl (sqL eD), ?_, ?_⟩
          · have : ((cs.map oneS).map (·.length)).sum ≤ cs.length := by
              clear eD hl hcs
              induction cs with
              | nil => exact Nat.le_refl _
              | cons a l ih =>
                show 1 + ((l.map oneS).map (·.length)).sum ≤ l.length + 1
                omega
            rw [List.length_map]
            show _ + cs.length * 0 ≤ _
            omega
          · rw [join_ones]
            refine q H4 _ (.str (wStr cs)) (kH3.trans k4) (D4.mono (by omega)) (fun _ => .str _) ?_ ?_
            · show isWord (wStr cs) = true
              rw [isWord_eq, wStr_len, decide_eq_true (by omega)]
              show (true && (wStr cs).cps.toList.all isLow) = true
              rw [Bool.true_and]
              have : (wStr cs).cps.toList = cs := rfl
              rw [this, List.all_eq_true]
              intro x m
              have := hcs x m
              unfold isLow
              simp
              omega
            · show 20 + (wStr cs).length ≤ 30
              rw [wStr_len]
              omega
    · refine ⟨.ref d, rfl, ?_⟩
      refine ⟨.ref d, rfl, d, w, c, N + 1, 64, rfl, D1, by omega, by decide, by decide, fun H2 r2 k2 D2 a2 b2 => ?_⟩
      refine ⟨.ref d, rfl, d, w, c, N + 1 + 1, 1100, rfl, D2, by omega, by decide, by decide, fun H3 r3 k3 D3 a3 b3 => ?_⟩
      refine ⟨.ref d, rfl, d, w, c, N + 1 + 1 + 1, 32768, rfl, D3, by omega, by decide, by decide, fun H4 r4 k4 D4 a4 b4 => ?_⟩
      refine ⟨small (by show 9 ≤ 1000; omega), fun p np => ?_⟩
      refine ⟨d, w, c, N + 1 + 1 + 1 + 1, p, _, rfl, D4.kp0 (Kp.new np), by omega, upd_same, D4.there np, (fun z => by cases z), (by show 9 ≤ 1000; decide), fun H5 x k5 D5 hx => ?_⟩
      have kk : Kp [d, w] H H5 := ((((k1.trans k2).trans k3).trans k4).trans (Kp.new np)).trans k5
      obtain ⟨i, rfl, i0, i1⟩ : ∃ i : Int, x = .int i ∧ 0 ≤ i ∧ i ≤ 32767 := by
        simp only [List.mem_cons, List.not_mem_nil, or_false] at hx
        rcases hx with rfl | rfl | rfl | rfl | rfl | rfl | rfl | rfl | rfl <;> exact ⟨_, rfl, by omega, by omega⟩
      refine q H5 _ (.int i) kk (D5.mono (by omega)) (fun _ => .int _) ?_ (show 20 ≤ 30 by decide)
      show (decide (0 ≤ i) && decide (i ≤ 32767)) = true
      rw [decide_eq_true i0, decide_eq_true i1]
      rfl
end
end K18
set_option Elab.async false
set_option linter.all false
set_option maxRecDepth 100000
set_option maxHeartbeats 4000000
namespace K18
open PySem PySem.Spec PyProof.Rows L2 Kb
def rGt : R2 := rI0 fun i j => .bl (decide (j < i))
def rMin2 : List V → Hp → VK → Prop := fun xs H Q => ∃ i j, xs = [.int i, .int j] ∧ Q (.int (if j < i then j else i)) H
theorem call_mn {X : Cx} (hc : X.calm = true) : CallR X (.builtin "min") rMin2 := call_min2 hc
def cost (m i : Nat) : Nat := if i = 0 then 0 else bd m + (i - 1) * bd (min m 3)
theorem cost_le {m i : Nat} (h : i ≤ 3) : cost m i ≤ bd m + 2 * bd (min m 3) := by
  unfold cost
  split
  · omega
  · have : (i - 1) * bd (min m 3) ≤ 2 * bd (min m 3) := Nat.mul_le_mul_right _ (by omega)
    omega
theorem cost_0 (m : Nat) : cost m 1 = cost m 0 + bd m := by
  unfold cost
  rw [if_neg (by omega), if_pos rfl, Nat.sub_self, Nat.zero_mul, Nat.zero_add]
  rfl
theorem cost_s {m i : Nat} (h : 0 < i) : cost m (i + 1) = cost m i + bd (min m 3) := by
  unfold cost
  rw [if_neg (by omega), if_neg (by omega), show i + 1 - 1 = (i - 1) + 1 by omega, Nat.succ_mul]
  omega
section
variable {P : Program} {w : World} {K : PySem.W.Frag} {mg : Str → Option Value} {base : Heap}
/-! ### _law_tree -/
def spTree (n : Nat) : Sp := fun vs H Q _ => ∃ d w c N m, vs = [.ref d, .int ((m : Nat) : Int)] ∧ m ≤ n ∧ Dr H d w c N ∧ N + bd m ≤ 90000000 ∧ ∀ H' x t, Kp [d, w] H H' → Dr H' d w c (N + bd m) → (∀ S, Da S H' x t) → isTree m t = true → sz t ≤ bd m → Q x H'
theorem ok_tree_step {f f1 f2 f3 : Addr} {fd fd1 fd2 fd3 : FuncData} {k : Nat} (n : Nat) (sp0 : Sp) (h0 : ∀ m, n = m + 1 → sp0 = spTree m) (F : Fun K "_law_tree" "_law_tree" s_l_tree f fd) (T : Bi mg)
    (b0 : Binds K fd ["draw", "deep"] []) (g0 : mg "_law_tree" = some (.ref f)) (G0 : FnOk P w K mg base CX0 (k + 4 + n) f fd ["draw", "deep"] sp0)
    (F1 : Fun K "_law_take" "_law_take" s_l_take f1 fd1) (b1 : Binds K fd1 ["draw", "many"] []) (g1 : mg "_law_take" = some (.ref f1)) (G1 : FnOk P w K mg base CX0 (k + 2) f1 fd1 ["draw", "many"] spTake)
    (F2 : Fun K "_law_pick" "_law_pick" s_l_pick f2 fd2) (b2 : Binds K fd2 ["draw", "some"] []) (g2 : mg "_law_pick" = some (.ref f2)) (G2 : FnOk P w K mg base CX0 (k + 3) f2 fd2 ["draw", "some"] (spPick K))
    (F3 : Fun K "_law_leaf" "_law_leaf" s_l_leaf f3 fd3) (b3 : Binds K fd3 ["draw"] []) (g3 : mg "_law_leaf" = some (.ref f3)) (G3 : FnOk P w K mg base CX0 (k + 4) f3 fd3 ["draw"] spLeaf) :
    FnOk P w K mg base CX0 (k + 5 + n) f fd ["draw", "deep"] (spTree n) := by
  rw [show k + 5 + n = k + 4 + n + 1 by omega]
  refine F.ok sc_l_tree (fun vs H Q E h => ?_) (fun cdv A outer s H vs Q E hr h => ?_)
  · obtain ⟨_, _, _, _, _, rfl, _⟩ := h
    rfl
  · obtain ⟨d, w, c, N, m, rfl, hmn, hD, hN, q⟩ := h
    refine ⟨_, (pss_cons (ps_if (PW.pt (pw_or (pt_cmpR op_eq (pv 1) pe_int (nomark _)) (pw_or1 (pt_cmpR op_eq (pe_call G1 (hr.mono (by omega)) (by rfl) g1 F1.kp b1 .nil pass0 (pa_cons (pv 0) (pa_cons pe_int pa_nil))) pe_int (nomark _))))) (pss_one (ps_ret (pe_call G3 (hr.mono (by omega)) (by rfl) g3 F3.kp b3 .nil pass0 (pa_cons (pv 0) pa_nil)))) pss_nil)
      (pss_one (ps_ret (pe_callTy call_tuple_of (by rfl) T.m_tuple (by decide +kernel) (pa_cons (pe_lc (own := [("k", 2)]) (g := gName 2) (te := tCall sp0 [] E0 (tCons (tVar 0) (tCons (tIf (tTest (tOp rGt (tVar 2) (tC (.int 0)))) (tCB rMin2 (tCons (tOp rMi (tVar 1) (tC (.int 1))) (tCons (tC (.int 3)) tNil))) (tOp rMi (tVar 1) (tC (.int 1)))) tNil))) (by rfl) sc_l_tree.nd (pi_range1 (by rfl) T.m_range (pa_cons (pe_call G2 (hr.mono (by omega)) (by rfl) g2 F2.kp b2 .nil pass0 (pa_cons (pv 0) (pa_cons (pe_lst (pa_cons pe_int (pa_cons pe_int (pa_cons pe_int (pa_cons pe_int (pa_cons pe_int pa_nil)))))) pa_nil))) pa_nil)) (blkOk_by (own := [("k", 2)]) (N := ["draw", "deep", "k"]) (sc := defScope s_l_tree) (by decide +kernel)) (fun _ _ _ _ _ => pg_name (i := 2) sc_l_tree.nd rfl (.inl rfl)) (fun _ _ _ _ _ => pts_nil) (fun _ _ _ _ _ => by exact pe_call G0 hr (by rfl) g0 F.kp b0 .nil pass0 (pa_cons (pv 0) (pa_cons (pe_ifExp (pt_cmpR op_gt (pv 2) pe_int (nomark _)) (pe_callB (call_mn rfl) (by rfl) T.m_min (by decide +kernel) (pa_cons (pe_op op_sub (pv 1) pe_int) (pa_cons pe_int pa_nil))) (pe_op op_sub (pv 1) pe_int)) pa_nil)))) pa_nil))))), ?_⟩
    have leaf : ∀ H1 N1, Kp [d, w] H H1 → Dr H1 d w c N1 → N1 ≤ N + 1 → spLeaf [.ref d] H1 Q E0 := fun H1 N1 k1 D1 hN1 => by
      have hb := bd_pos m
      refine ⟨d, w, c, N1, rfl, D1, by omega, fun H2 x t k2 D2 hda ht hs => ?_⟩
      exact q H2 x t (k1.trans k2) (D2.mono (by omega)) hda (isTree_mono (Nat.zero_le _) ht) (by omega)
    refine ⟨.int m, rfl, rfl, _, rfl, ite2 (fun e => ?_) (fun e => ?_)⟩
    · exact ite2 (fun _ => ⟨.ref d, rfl, leaf H N .refl hD (by omega)⟩) (fun z => absurd rfl z)
    have hm0 : (m : Int) ≠ 0 := neI e
    refine ⟨.ref d, rfl, d, w, c, N, 3, rfl, hD, by omega, by decide, by decide, fun H1 r1 k1 D1 _ _ => ⟨rfl, _, rfl, ite2 (fun _ => ?_) (fun _ => ?_)⟩⟩
    · exact ⟨.ref d, rfl, leaf H1 _ k1 D1 (by omega)⟩
    obtain ⟨m', rfl⟩ : ∃ m', m = m' + 1 := ⟨m - 1, by omega⟩
    obtain ⟨n', rfl⟩ : ∃ n', n = n' + 1 := ⟨n - 1, by omega⟩
    obtain rfl := h0 n' rfl
    have hst := bd_step m'
    refine ⟨.ref d, rfl, small (by show 5 ≤ 1000; omega), fun p np => ?_⟩
    have kp : Kp [] H1 (upd H1 p (.lst [.int 0, .int 1, .int 1, .int 2, .int 3])) := Kp.new np
    refine ⟨d, w, c, N + 1, p, _, rfl, D1.kp0 kp, by omega, upd_same, D1.there np, (fun z => by cases z), (show 5 ≤ 1000 by decide), fun H3 x k3 D3 hx => ?_⟩
    obtain ⟨j, rfl, hj3⟩ : ∃ j : Nat, x = .int j ∧ j ≤ 3 := by
      simp only [List.mem_cons, List.not_mem_nil, or_false] at hx
      rcases hx with rfl | rfl | rfl | rfl | rfl
      · exact ⟨0, rfl, by decide⟩
      · exact ⟨1, rfl, by decide⟩
      · exact ⟨1, rfl, by decide⟩
      · exact ⟨2, rfl, by decide⟩
      · exact ⟨3, rfl, by decide⟩
    refine ⟨(j : Int), rfl, by omega, by omega, fun D nD => ?_⟩
    have kH3 : Kp [d, w] H H3 := (k1.trans kp.of).trans k3
    have nDdw : D ∉ [d, w] := D3.there nD
    refine lc_by (J := Itr 0 (j : Int).toNat) (vs := [2]) (D := D) (H0 := upd H3 D (.lst [])) (n := j) (fun i H4 => Kp [d, w] H3 H4 ∧ Dr H4 d w c (N + 2 + cost m' i) ∧ ∃ acc ts, H4 D = some (.lst acc) ∧ (∀ S, DaL S H4 acc ts) ∧ acc.length = i ∧ areTrees m' ts = true ∧ szs ts ≤ cost m' i)
      ⟨Kp.new nD, (D3.kp0 (Kp.new nD)).mono (by omega), [], [], upd_same, fun _ => .nil, rfl, by unfold areTrees; rfl, Nat.zero_le _⟩ ?_ ?_
    · rintro i H4 hi ⟨k4, D4, acc, ts, eD, hda, hl, hat, hsz⟩
      refine ⟨by show i < (j : Int).toNat; omega, ?_⟩
      rintro v H5 ⟨eH, rfl⟩
      obtain rfl : H4 = H5 := eH.symm
      have hc := cost_le (m := m') (i := i) (by omega)
      -- the child's depth
      have key : ∀ dp : Nat, dp ≤ m' → cost m' (i + 1) = cost m' i + bd dp → spTree n' [.ref d, .int ((dp : Nat) : Int)] H4 (fun y H6 => ∃ acc, H6 D = some (.lst acc) ∧ acc.length < sizeLine ∧ (fun i H4 => Kp [d, w] H3 H4 ∧ Dr H4 d w c (N + 2 + cost m' i) ∧ ∃ acc ts, H4 D = some (.lst acc) ∧ (∀ S, DaL S H4 acc ts) ∧ acc.length = i ∧ areTrees m' ts = true ∧ szs ts ≤ cost m' i) (i + 1) (upd H6 D (.lst (acc ++ [y])))) E0 := fun dp hdp hcs => by
        have hc1 := cost_le (m := m') (i := i + 1) (by omega)
        refine ⟨d, w, c, N + 2 + cost m' i, dp, rfl, by omega, D4, by omega, fun H6 y t k6 D6 hy ht hs => ?_⟩
        have eD6 := k6 D _ eD (.inr nDdw)
        have kD : Kp [D] H6 (upd H6 D (.lst (acc ++ [y]))) := kp_set eD6 rfl
        refine ⟨acc, eD6, by rw [sizeLine_eq]; omega, ?_, ?_, acc ++ [y], ts ++ [t], upd_same, fun S => ?_, ?_, ?_, ?_⟩
        · exact fun b o eb hb => by
            by_cases hbl : b = D
            · rw [hbl, nD] at eb
              cases eb
            · rw [upd_ne hbl]
              exact (k4.trans k6) b o eb hb
        · rw [hcs]
          exact (D6.kp kD (fun z => nDdw (by rw [← List.mem_singleton.mp z]; simp)) (fun z => nDdw (by rw [← List.mem_singleton.mp z]; simp)) (fun z => by
              obtain ⟨cs', ec, _⟩ := D3.cells
              rw [List.mem_singleton.mp z, nD] at ec
              cases ec)).mono (by omega)
        · exact DaL.snoc (DaL.any kD (fun S => DaL.any k6 hda S) S) (Da.any kD hy S)
        · rw [List.length_append, hl]
          rfl
        · rw [areTrees_app, hat, areTrees_one]
          exact isTree_mono hdp ht
        · rw [szs_app, hcs]
          show szs ts + (sz t + 0) ≤ _
          omega
      have em : (((m' + 1 : Nat) : Int) - 1) = ((m' : Nat) : Int) := by omega
      refine ⟨rfl, .ref d, rfl, .int ((0 : Int) + (i : Int)), rfl, _, 0, rfl, rfl, _, rfl, ?_⟩
      cases i with
      | zero =>
        refine ite2 (fun z => by cases of_decide_eq_true z) (fun _ => ?_)
        refine ⟨.int ((m' + 1 : Nat) : Int), rfl, _, 1, rfl, rfl, ?_⟩
        have := key m' (Nat.le_refl _) (cost_0 m')
        rw [← em] at this
        exact this
      | succ i =>
        rw [show decide ((0 : Int) < (0 : Int) + ((i + 1 : Nat) : Int)) = true from decide_eq_true (by omega)]
        refine ite2 (fun _ => ?_) (fun z => absurd rfl z)
        refine ⟨.int ((m' + 1 : Nat) : Int), rfl, _, 1, rfl, rfl, _, _, rfl, ?_⟩
        have := key (min m' 3) (by omega) (cost_s (by omega))
        have e3 : (if (3 : Int) < (((m' + 1 : Nat) : Int) - 1) then (3 : Int) else (((m' + 1 : Nat) : Int) - 1)) = ((min m' 3 : Nat) : Int) := by
          rw [em]
          split <;> omega
        rw [← e3] at this
        exact this
    · rintro H4 ⟨k4, D4, acc, ts, eD, hda, hl, hat, hsz⟩
      have hc1 := cost_le (m := m') (i := j) hj3
      refine ⟨by show (j : Int).toNat ≤ j; omega, ?_⟩
      refine ⟨D, acc, rfl, .inl ⟨sqL eD, fun l nl => ?_⟩⟩
      have kl : Kp [] H4 (upd H4 l (.tup acc)) := Kp.new nl
      refine q _ _ (.tuple ts) ((kH3.trans k4).trans kl.of) ((D4.kp0 kl).mono (by omega)) (fun S => .tup upd_same (DaL.any kl hda S)) hat ?_
      show 20 + szs ts ≤ bd (m' + 1)
      omega
theorem ok_tree {f f1 f2 f3 : Addr} {fd fd1 fd2 fd3 : FuncData} {k : Nat} (F : Fun K "_law_tree" "_law_tree" s_l_tree f fd) (T : Bi mg) (b0 : Binds K fd ["draw", "deep"] []) (g0 : mg "_law_tree" = some (.ref f))
    (F1 : Fun K "_law_take" "_law_take" s_l_take f1 fd1) (b1 : Binds K fd1 ["draw", "many"] []) (g1 : mg "_law_take" = some (.ref f1)) (G1 : FnOk P w K mg base CX0 (k + 2) f1 fd1 ["draw", "many"] spTake)
    (F2 : Fun K "_law_pick" "_law_pick" s_l_pick f2 fd2) (b2 : Binds K fd2 ["draw", "some"] []) (g2 : mg "_law_pick" = some (.ref f2)) (G2 : FnOk P w K mg base CX0 (k + 3) f2 fd2 ["draw", "some"] (spPick K))
    (F3 : Fun K "_law_leaf" "_law_leaf" s_l_leaf f3 fd3) (b3 : Binds K fd3 ["draw"] []) (g3 : mg "_law_leaf" = some (.ref f3)) (G3 : FnOk P w K mg base CX0 (k + 4) f3 fd3 ["draw"] spLeaf) :
    ∀ n : Nat, FnOk P w K mg base CX0 (k + 5 + n) f fd ["draw", "deep"] (spTree n)
  | 0 => ok_tree_step 0 (fun _ _ _ _ => False) (fun m h => by cases h) F T b0 g0 fnFalse F1 b1 g1 G1 F2 b2 g2 G2 F3 b3 g3 G3
  | n + 1 => ok_tree_step (n + 1) (spTree n) (fun m h => by cases h; rfl) F T b0 g0 ((ok_tree F T b0 g0 F1 b1 g1 G1 F2 b2 g2 G2 F3 b3 g3 G3 n).mono (by omega)) F1 b1 g1 G1 F2 b2 g2 G2 F3 b3 g3 G3
theorem ok_ltc {f : Addr} {fd : FuncData} {k : Nat} (F : Fun K "_law_tree_cells" "_law_tree_cells" s_l_tree_cells f fd) (T : Bi mg) (b0 : Binds K fd ["tree"] []) (g0 : mg "_law_tree_cells" = some (.ref f)) : ∀ n : Nat, FnOk P w K mg base CX0 (k + 1 + n) f fd ["tree"] (spLTC n)
  | 0 => ok_ltc_step 0 (fun _ _ _ _ => False) (fun m h => by cases h) F T b0 g0 fnFalse
  | n + 1 => ok_ltc_step (n + 1) (spLTC n) (fun m h => by cases h; rfl) F T b0 g0 ((ok_ltc (k := k) F T b0 g0 n).mono (by omega))
end
end K18
set_option Elab.async false
set_option linter.all false
set_option maxRecDepth 100000
set_option maxHeartbeats 4000000
namespace K18
open PySem PySem.Spec PyProof.Rows L2 Kb
/-! ### what is shown of trees -/
theorem depth_0 {d : PyData} (h1 : ∀ l, d ≠ .list l) (h2 : ∀ l, d ≠ .tuple l) (h3 : ∀ l, d ≠ .dict l) : d.depth = 0 := by
  cases d <;> first | rfl | exact absurd rfl (h1 _) | exact absurd rfl (h2 _) | exact absurd rfl (h3 _)
theorem strOk_word {x : Str} (h : isWord x = true) : PySem.PyData.strOk x = true := by
  obtain ⟨_, h2⟩ := Bool.and_eq_true_iff.mp h
  show x.cps.all (fun x => decide (x < 0x110000)) = true
  rw [Array.all_eq_true']
  intro c m
  have := List.all_eq_true.mp h2 c (by simpa using m)
  simp at this
  simp
  omega
mutual
theorem tree_lay : ∀ (d : PyData) (n : Nat), isTree n d = true → d.canLay0 = true ∧ d.depth ≤ n ∧ d.showable = true
  | .none, n, _ => ⟨rfl, Nat.zero_le _, rfl⟩
  | .bool _, n, _ => ⟨rfl, Nat.zero_le _, rfl⟩
  | .int i, n, h => by
    have e : isTree n (.int i) = (decide (0 ≤ i) && decide (i ≤ 32767)) := by cases n <;> rfl
    rw [e] at h
    have hi : 0 ≤ i ∧ i ≤ 32767 := by simpa using h
    refine ⟨rfl, Nat.zero_le _, ?_⟩
    show decide (i.natAbs.log2 < 1920) = true
    refine decide_eq_true ?_
    obtain ⟨k, rfl⟩ : ∃ k : Nat, i = k := ⟨i.toNat, by omega⟩
    rw [Int.natAbs_natCast]
    by_cases hk : k = 0
    · rw [hk]
      decide
    · refine (Nat.log2_lt hk).mpr (Nat.lt_of_lt_of_le (show k < 2 ^ 15 by omega) (Nat.pow_le_pow_right (by decide) (by decide)))
  | .str x, n, h => by
    have e : isTree n (.str x) = isWord x := by cases n <;> rfl
    rw [e] at h
    exact ⟨strOk_word h, Nat.zero_le _, rfl⟩
  | .tuple ds, 0, h => by cases h
  | .tuple ds, n + 1, h => by
    obtain ⟨a, b, c⟩ := trees_lay ds n h
    exact ⟨a, Nat.succ_le_succ b, c⟩
  | .list _, n, h => by cases n <;> cases h
  | .dict _, n, h => by cases n <;> cases h
theorem trees_lay : ∀ (ds : List PyData) (n : Nat), areTrees n ds = true → PyData.canLayAll0 ds = true ∧ PyData.depthAll ds ≤ n ∧ PyData.showableAll ds = true
  | [], n, _ => ⟨rfl, Nat.zero_le _, rfl⟩
  | d :: ds, n, h => by
    unfold areTrees at h
    obtain ⟨h1, h2⟩ := Bool.and_eq_true_iff.mp h
    obtain ⟨a1, b1, c1⟩ := tree_lay d n h1
    obtain ⟨a2, b2, c2⟩ := trees_lay ds n h2
    refine ⟨?_, Nat.max_le.mpr ⟨b1, b2⟩, ?_⟩
    · show (PyData.canLay0 d && PyData.canLayAll0 ds) = true
      rw [a1, a2]
      rfl
    · show (PyData.showable d && PyData.showableAll ds) = true
      rw [c1, c2]
      rfl
end
theorem int_len {i : Int} (h0 : 0 ≤ i) (h1 : i ≤ 32767) : (PyData.int i).shown.length ≤ 5 := by
  obtain ⟨k, rfl⟩ : ∃ k : Nat, i = k := ⟨i.toNat, by omega⟩
  have e := TL.tl_num k
  have h := TL.numL_len (n := k) (k := 5) (by decide) (by omega)
  rw [← e] at h
  exact h
mutual
theorem shown_len : ∀ (d : PyData) (n : Nat), isTree n d = true → d.shown.length + 2 ≤ 10 * sz d
  | .none, n, _ => by decide +kernel
  | .bool b, n, _ => by cases b <;> decide +kernel
  | .int i, n, h => by
    have e : isTree n (.int i) = (decide (0 ≤ i) && decide (i ≤ 32767)) := by cases n <;> rfl
    rw [e] at h
    have hi : 0 ≤ i ∧ i ≤ 32767 := by simpa using h
    have := int_len hi.1 hi.2
    show _ + 2 ≤ 10 * 20
    omega
  | .str x, n, h => by
    have e : isTree n (.str x) = isWord x := by cases n <;> rfl
    rw [e] at h
    obtain ⟨_, h2⟩ := Bool.and_eq_true_iff.mp h
    have := StrLaws.reprText_len x (fun c m => by
      have := List.all_eq_true.mp h2 c m
      have hc : c ≤ 122 := by
        simp at this
        exact this.2
      exact Nat.lt_of_le_of_lt hc (by decide))
    show (reprText x).length + 2 ≤ 10 * (20 + x.length)
    omega
  | .tuple ds, 0, h => by cases h
  | .tuple ds, n + 1, h => by
    have := showns_len ds n h
    have := tupleText_len_le (PyData.shownAll ds)
    show (tupleText (PyData.shownAll ds)).length + 2 ≤ 10 * (20 + szs ds)
    omega
  | .list _, n, h => by cases n <;> cases h
  | .dict _, n, h => by cases n <;> cases h
theorem showns_len : ∀ (ds : List PyData) (n : Nat), areTrees n ds = true → ((PyData.shownAll ds).map (·.length)).sum + 2 * (PyData.shownAll ds).length ≤ 10 * szs ds
  | [], n, _ => Nat.le_refl _
  | d :: ds, n, h => by
    unfold areTrees at h
    obtain ⟨h1, h2⟩ := Bool.and_eq_true_iff.mp h
    have a := shown_len d n h1
    have b := showns_len ds n h2
    show (d.shown.length + ((PyData.shownAll ds).map (·.length)).sum) + 2 * ((PyData.shownAll ds).length + 1) ≤ 10 * (sz d + szs ds)
    omega
end
theorem cells_cons {a : Int} {l : List Int} (h0 : 0 ≤ a) (h1 : a ≤ 63) (h : Cells l) : Cells (a :: l) := fun x m => by
  rcases List.mem_cons.mp m with rfl | m
  · exact ⟨h0, h1⟩
  · exact h x m
theorem cells_nil : Cells [] := fun _ m => absurd m List.not_mem_nil
theorem cells_append {a b : List Int} (ha : Cells a) (hb : Cells b) : Cells (a ++ b) := fun x m => by
  rcases List.mem_append.mp m with m | m
  · exact ha x m
  · exact hb x m
mutual
theorem tree_cells63 : ∀ (d : PyData) (n : Nat), isTree n d = true → Cells (cellsOf d)
  | .none, n, _ => cells_cons (by decide) (by decide) cells_nil
  | .bool b, n, _ => by cases b <;> exact cells_cons (by decide) (by decide) cells_nil
  | .int i, n, h => by
    have e : isTree n (.int i) = (decide (0 ≤ i) && decide (i ≤ 32767)) := by cases n <;> rfl
    rw [e] at h
    have hi : 0 ≤ i ∧ i ≤ 32767 := by simpa using h
    unfold cellsOf
    refine cells_cons (by decide) (by decide) ?_
    unfold numCells
    split
    · exact cells_cons (by omega) (by omega) (cells_cons (by omega) (by omega) (cells_cons (by omega) (by omega) cells_nil))
    · split
      · exact cells_cons (by omega) (by omega) (cells_cons (by omega) (by omega) cells_nil)
      · exact cells_cons (by omega) (by omega) cells_nil
  | .str x, n, h => by
    have e : isTree n (.str x) = isWord x := by cases n <;> rfl
    rw [e] at h
    obtain ⟨_, h2⟩ := Bool.and_eq_true_iff.mp h
    have hl : ∀ c ∈ x.cps.toList, 97 ≤ c ∧ c ≤ 122 := fun c m => by
      have := List.all_eq_true.mp h2 c m
      simpa using this
    unfold cellsOf wordCells
    cases hr : x.cps.toList.reverse with
    | nil => exact cells_cons (by decide) (by decide) cells_nil
    | cons l r =>
      have hc : x.cps.toList = r.reverse ++ [l] := by rw [← List.reverse_reverse x.cps.toList, hr, List.reverse_cons]
      rw [hc] at hl
      dsimp only
      refine cells_append (fun y m => ?_) (cells_cons ?_ ?_ cells_nil)
      · obtain ⟨c, mc, rfl⟩ := List.mem_map.mp m
        have := hl c (List.mem_append_left _ mc)
        unfold lw
        omega
      · have := hl l (by simp)
        unfold lw
        omega
      · have := hl l (by simp)
        unfold lw
        omega
  | .tuple ds, 0, h => by cases h
  | .tuple ds, n + 1, h => by
    unfold cellsOf
    exact cells_cons (by decide) (by decide) (cells_append (trees_cells63 ds n h) (cells_cons (by decide) (by decide) cells_nil))
  | .list _, n, h => by cases n <;> cases h
  | .dict _, n, h => by cases n <;> cases h
theorem trees_cells63 : ∀ (ds : List PyData) (n : Nat), areTrees n ds = true → Cells (cellsAll ds)
  | [], n, _ => cells_nil
  | d :: ds, n, h => by
    unfold areTrees at h
    obtain ⟨h1, h2⟩ := Bool.and_eq_true_iff.mp h
    unfold cellsAll
    exact cells_append (tree_cells63 d n h1) (trees_cells63 ds n h2)
end
theorem all63 : ∀ {ns : List Int}, Cells ns → (ns.map PyData.int).all (inB 0 63) = true
  | [], _ => rfl
  | n :: r, h => by
    obtain ⟨h0, h1⟩ := h n List.mem_cons_self
    show (inB 0 63 (.int n) && (r.map PyData.int).all (inB 0 63)) = true
    rw [all63 fun x m => h x (List.mem_cons_of_mem _ m)]
    show ((decide (0 ≤ n) && decide (n ≤ 63)) && true) = true
    rw [decide_eq_true h0, decide_eq_true h1]
    rfl
/-! ### lists of numbers, compared -/
theorem ints_lay : ∀ ns : List Int, PyData.canLayAll0 (ns.map PyData.int) = true ∧ PyData.depthAll (ns.map PyData.int) = 0
  | [] => ⟨rfl, rfl⟩
  | n :: r => by
    obtain ⟨a, b⟩ := ints_lay r
    refine ⟨?_, ?_⟩
    · show (true && PyData.canLayAll0 (r.map PyData.int)) = true
      rw [a]
      rfl
    · show max 0 (PyData.depthAll (r.map PyData.int)) = 0
      rw [b]
      rfl
theorem shaped_il (ns : List Int) : SeqAt.shaped (.list (ns.map PyData.int)) = true := by
  obtain ⟨a, b⟩ := ints_lay ns
  exact shaped_mk a (by show PyData.depthAll (ns.map PyData.int) + 1 ≤ 64; omega)
theorem shaped_it (ns : List Int) : SeqAt.shaped (.tuple (ns.map PyData.int)) = true := by
  obtain ⟨a, b⟩ := ints_lay ns
  exact shaped_mk a (by show PyData.depthAll (ns.map PyData.int) + 1 ≤ 64; omega)
theorem DpAll.ints {K : PySem.W.Frag} {H : Hp} : ∀ ns : List Int, DpAll K H (ns.map V.int) (ns.map PyData.int)
  | [] => .nil
  | n :: r => .cons (.int n) (DpAll.ints r)
theorem eqv_il : ∀ a b : List Int, PyData.eqv (.list (a.map PyData.int)) (.list (b.map PyData.int)) = decide (a = b)
  | [], [] => by decide
  | [], _ :: _ => rfl
  | _ :: _, [] => rfl
  | x :: a, y :: b => by
    have ih := eqv_il a b
    have e : PyData.eqv (.list ((x :: a).map PyData.int)) (.list ((y :: b).map PyData.int)) = (PyData.eqv (.int x) (.int y) && PyData.eqv (.list (a.map PyData.int)) (.list (b.map PyData.int))) := by
      first | rfl | (simp [PyData.eqv, PyData.eqvAll])
    rw [e, ih]
    have e2 : PyData.eqv (.int x) (.int y) = decide (x = y) := by first | rfl | (simp [PyData.eqv])
    rw [e2]
    by_cases h : x = y <;> by_cases h2 : a = b <;> simp [h, h2]
end K18
set_option Elab.async false
set_option linter.all false
set_option maxRecDepth 100000
set_option maxHeartbeats 4000000
namespace K18
open PySem PySem.Spec PyProof.Rows L2 Kb
/-! ### the law's own reader, by value -/
def isHi (c : Int) : Bool := decide (32 ≤ c)
def isLo (c : Int) : Bool := decide (c ≤ 32)
def is26 (c : Int) : Bool := decide (1 ≤ c) && decide (c ≤ 26)
def isLast (c : Int) : Bool := decide (33 ≤ c) && decide (c ≤ 58)
def numPart (l : List Int) : Option (PyData × List Int) := match l.dropWhile isHi with
  | [] => none
  | x :: r => if 3 < (l.takeWhile isHi).length + 1 ∨ (1 < (l.takeWhile isHi).length + 1 ∧ (l.takeWhile isHi ++ [x]).head? = some 32) then none
    else some (.int (numOf ((l.takeWhile isHi ++ [x]).map (· % 32))), r)
def wordPart (l : List Int) : Option (PyData × List Int) := match l.dropWhile isLo with
  | [] => none
  | x :: r => if 8 < (l.takeWhile isLo).length + 1 ∨ ¬ ((l.takeWhile isLo).all is26 = true) ∨ ¬ isLast x = true then none
    else some (.str (wStr ((l.takeWhile isLo ++ [x]).map fun c => let1 (c % 32))), r)
def plainOf (c : Int) : PyData := if c = 29 then .none else if c = 30 then .bool false else if c = 31 then .bool true else .str (wStr [])
def leafPart : List Int → Option (PyData × List Int)
  | [] => none
  | c :: r => if 29 ≤ c ∧ c ≤ 32 then some (plainOf c, r) else if c = 59 then numPart r else wordPart (c :: r)
def partsF (p : List Int → Option (PyData × List Int)) : Nat → List Int → Option (List PyData × List Int)
  | 0, _ => none
  | _ + 1, [] => none
  | f + 1, c :: r => if c = 28 then some ([], r) else match p (c :: r) with
    | none => none
    | some (d, r') => match partsF p f r' with
      | none => none
      | some (ds, r'') => some (d :: ds, r'')
def part : Nat → List Int → Option (PyData × List Int)
  | 0, l => leafPart l
  | n + 1, l => match l with
    | [] => none
    | c :: r => if c = 27 then (match partsF (part n) (r.length + 1) r with
        | none => none
        | some (ds, r') => some (.tuple ds, r')) else leafPart (c :: r)
def C63 (l : List Int) : Prop := ∀ c ∈ l, 0 ≤ c ∧ c ≤ 63
theorem C63.tail {c : Int} {l : List Int} (h : C63 (c :: l)) : C63 l := fun x m => h x (List.mem_cons_of_mem _ m)
theorem C63.app {a b : List Int} (h : C63 (a ++ b)) : C63 a ∧ C63 b := ⟨fun x m => h x (List.mem_append_left _ m), fun x m => h x (List.mem_append_right _ m)⟩
theorem tw_all {p : Int → Bool} : ∀ {l : List Int}, ∀ c ∈ l.takeWhile p, p c = true
  | [], c, m => by cases m
  | a :: l, c, m => by
    cases h : p a with
    | false =>
      rw [List.takeWhile_cons_of_neg (by simp [h])] at m
      cases m
    | true =>
      rw [List.takeWhile_cons_of_pos h] at m
      rcases List.mem_cons.mp m with rfl | m
      · exact h
      · exact tw_all c m
theorem leaf_cons {c : Int} {r : List Int} : leafPart (c :: r) = if 29 ≤ c ∧ c ≤ 32 then some (plainOf c, r) else if c = 59 then numPart r else wordPart (c :: r) := rfl
/-! #### sound -/
theorem num_sound {l r : List Int} {t : PyData} (hl : C63 l) (h : numPart l = some (t, r)) : ∃ i : Int, t = .int i ∧ 0 ≤ i ∧ i ≤ 32767 ∧ l = numCells i ++ r := by
  unfold numPart at h
  have e0 := List.takeWhile_append_dropWhile (p := isHi) (l := l)
  have hx0 : ∀ x r', l.dropWhile isHi = x :: r' → ¬ isHi x = true := by
    intro x r' e z
    have := List.head?_dropWhile_not isHi l
    rw [e] at this
    simp [z] at this
  cases e : l.dropWhile isHi with
  | nil => rw [e] at h; cases h
  | cons x r' =>
    rw [e] at h e0
    dsimp only at h
    split at h
    · cases h
    · rename_i hc
      have hc1 := fun z => hc (.inl z)
      have hc2 := fun z => hc (.inr z)
      injection h with h
      injection h with h1 h2
      have hx := hx0 x r' e
      have hxlo : x < 32 := by
        unfold isHi at hx
        simp at hx
        exact hx
      have hhi : ∀ c ∈ l.takeWhile isHi, 32 ≤ c := fun c m => by
        have := tw_all c m
        unfold isHi at this
        exact of_decide_eq_true this
      have hlw : C63 (l.takeWhile isHi ++ x :: r') := by rw [e0]; exact hl
      subst h2
      generalize l.takeWhile isHi = w at *
      have hxb := (hlw x (by simp))
      match w with
      | [] =>
        refine ⟨x % 32, h1.symm.trans ?_, by omega, by omega, ?_⟩
        · show PyData.int (0 * 32 + x % 32) = _
          rw [show 0 * 32 + x % 32 = x % 32 by omega]
        · rw [← e0]
          unfold numCells
          rw [if_neg (by omega), if_neg (by omega), show x % 32 % 32 = x by omega]
          rfl
      | [a] =>
        have ha := hlw a (by simp)
        have ha2 := hhi a (by simp)
        have ha3 : a ≠ 32 := fun z => hc2 ⟨by simp, by simp [z]⟩
        refine ⟨(a - 32) * 32 + x, h1.symm.trans ?_, by omega, by omega, ?_⟩
        · show PyData.int ((0 * 32 + a % 32) * 32 + x % 32) = _
          rw [show (0 * 32 + a % 32) * 32 + x % 32 = (a - 32) * 32 + x by omega]
        · rw [← e0]
          unfold numCells
          rw [if_neg (by omega), if_pos (by omega), show ((a - 32) * 32 + x) / 32 + 32 = a by omega, show ((a - 32) * 32 + x) % 32 = x by omega]
          rfl
      | [a, b] =>
        have ha := hlw a (by simp)
        have ha2 := hhi a (by simp)
        have hb := hlw b (by simp)
        have hb2 := hhi b (by simp)
        have ha3 : a ≠ 32 := fun z => hc2 ⟨by simp, by simp [z]⟩
        refine ⟨((a - 32) * 32 + (b - 32)) * 32 + x, h1.symm.trans ?_, by omega, by omega, ?_⟩
        · show PyData.int (((0 * 32 + a % 32) * 32 + b % 32) * 32 + x % 32) = _
          rw [show ((0 * 32 + a % 32) * 32 + b % 32) * 32 + x % 32 = ((a - 32) * 32 + (b - 32)) * 32 + x by omega]
        · rw [← e0]
          unfold numCells
          rw [if_pos (by omega), show (((a - 32) * 32 + (b - 32)) * 32 + x) / 1024 + 32 = a by omega, show (((a - 32) * 32 + (b - 32)) * 32 + x) / 32 % 32 + 32 = b by omega, show (((a - 32) * 32 + (b - 32)) * 32 + x) % 32 = x by omega]
          rfl
      | a :: b :: c :: w' =>
        exact absurd (show 3 < (a :: b :: c :: w').length + 1 by simp) hc1
theorem wStr_list (w : List Nat) : (wStr w).cps.toList = w := rfl
theorem wordCells_snoc (w : List Nat) (l : Nat) : wordCells (w ++ [l]) = w.map lw ++ [lw l + 32] := by
  unfold wordCells
  rw [List.reverse_append]
  show (w.reverse.reverse.map lw ++ [lw l + 32]) = _
  rw [List.reverse_reverse]
theorem isWord_of {w : List Nat} (h1 : w.length ≤ 8) (h2 : ∀ c ∈ w, 97 ≤ c ∧ c ≤ 122) : isWord (wStr w) = true := by
  unfold isWord
  refine Bool.and_eq_true_iff.mpr ⟨decide_eq_true (by show w.toArray.size ≤ 8; rw [List.size_toArray]; exact h1), List.all_eq_true.mpr fun c m => ?_⟩
  have := h2 c m
  simp [this.1, this.2]
theorem let_low {c : Int} (h1 : 1 ≤ c) (h2 : c ≤ 26) : lw (let1 (c % 32)) = c ∧ 97 ≤ let1 (c % 32) ∧ let1 (c % 32) ≤ 122 := by
  unfold let1 lw
  omega
theorem let_high {c : Int} (h1 : 33 ≤ c) (h2 : c ≤ 58) : lw (let1 (c % 32)) + 32 = c ∧ 97 ≤ let1 (c % 32) ∧ let1 (c % 32) ≤ 122 := by
  unfold let1 lw
  omega
theorem map_low : ∀ {w : List Int}, (∀ c ∈ w, 1 ≤ c ∧ c ≤ 26) → (w.map fun c => let1 (c % 32)).map lw = w
  | [], _ => rfl
  | c :: w, h => by
    show lw (let1 (c % 32)) :: (w.map fun c => let1 (c % 32)).map lw = _
    rw [(let_low (h c (by simp)).1 (h c (by simp)).2).1, map_low fun x m => h x (List.mem_cons_of_mem _ m)]
theorem is26_iff {c : Int} : is26 c = true ↔ 1 ≤ c ∧ c ≤ 26 := by
  unfold is26
  simp
theorem isLast_iff {c : Int} : isLast c = true ↔ 33 ≤ c ∧ c ≤ 58 := by
  unfold isLast
  simp
theorem word_sound {l r : List Int} {t : PyData} (h : wordPart l = some (t, r)) : ∃ x : Str, t = .str x ∧ isWord x = true ∧ l = wordCells x.cps.toList ++ r := by
  unfold wordPart at h
  have e0 := List.takeWhile_append_dropWhile (p := isLo) (l := l)
  cases e : l.dropWhile isLo with
  | nil => rw [e] at h; cases h
  | cons x r' =>
    rw [e] at h e0
    dsimp only at h
    split at h
    · cases h
    · rename_i hc
      have hc1 : ¬ 8 < (l.takeWhile isLo).length + 1 := fun z => hc (.inl z)
      have hc2 : (l.takeWhile isLo).all is26 = true := Decidable.byContradiction fun z => hc (.inr (.inl z))
      have hc3 : isLast x = true := Decidable.byContradiction fun z => hc (.inr (.inr z))
      injection h with h
      injection h with h1 h2
      subst h2
      generalize l.takeWhile isLo = w at *
      have hw : ∀ c ∈ w, 1 ≤ c ∧ c ≤ 26 := fun c m => is26_iff.mp (List.all_eq_true.mp hc2 c m)
      have hx := isLast_iff.mp hc3
      have ew : (w ++ [x]).map (fun c => let1 (c % 32)) = w.map (fun c => let1 (c % 32)) ++ [let1 (x % 32)] := by simp
      refine ⟨_, h1.symm, isWord_of (by simp; omega) fun c m => ?_, ?_⟩
      · rw [ew] at m
        rcases List.mem_append.mp m with m | m
        · obtain ⟨a, ma, rfl⟩ := List.mem_map.mp m
          exact (let_low (hw a ma).1 (hw a ma).2).2
        · have := List.mem_singleton.mp m
          subst this
          exact (let_high hx.1 hx.2).2
      · rw [wStr_list, ew, wordCells_snoc, map_low hw, (let_high hx.1 hx.2).1, ← e0]
        simp
theorem leaf_sound {n : Nat} {l r : List Int} {t : PyData} (hl : C63 l) (h : leafPart l = some (t, r)) : isTree n t = true ∧ l = cellsOf t ++ r := by
  cases l with
  | nil => cases h
  | cons c l =>
    rw [leaf_cons] at h
    split at h
    · rename_i hc
      injection h with h
      injection h with h1 h2
      subst h1 h2
      have : c = 29 ∨ c = 30 ∨ c = 31 ∨ c = 32 := by omega
      rcases this with rfl | rfl | rfl | rfl <;> cases n <;> exact ⟨rfl, rfl⟩
    · split at h
      · rename_i h59
        obtain ⟨i, rfl, h0, h1, e⟩ := num_sound hl.tail h
        subst h59
        refine ⟨?_, ?_⟩
        · cases n <;> (unfold isTree; simp [h0, h1])
        · rw [e]
          rfl
      · obtain ⟨x, rfl, h0, e⟩ := word_sound h
        refine ⟨?_, e⟩
        cases n <;> (unfold isTree; exact h0)
theorem parts_sound {n : Nat} {p : List Int → Option (PyData × List Int)} (hp : ∀ {l r : List Int} {t : PyData}, C63 l → p l = some (t, r) → isTree n t = true ∧ l = cellsOf t ++ r) : ∀ (f : Nat) {l r : List Int} {ds : List PyData}, C63 l → partsF p f l = some (ds, r) → areTrees n ds = true ∧ l = cellsAll ds ++ 28 :: r
  | 0, l, r, ds, _, h => by cases h
  | f + 1, [], r, ds, _, h => by cases h
  | f + 1, c :: l, r, ds, hl, h => by
    unfold partsF at h
    split at h
    · rename_i hc
      injection h with h
      injection h with h1 h2
      subst h1 h2 hc
      exact ⟨rfl, rfl⟩
    · cases hp1 : p (c :: l) with
      | none => rw [hp1] at h; cases h
      | some q =>
        obtain ⟨d, r'⟩ := q
        rw [hp1] at h
        dsimp only at h
        obtain ⟨k1, k2⟩ := hp hl hp1
        cases hp2 : partsF p f r' with
        | none => rw [hp2] at h; cases h
        | some q =>
          obtain ⟨ds', r''⟩ := q
          rw [hp2] at h
          injection h with h
          injection h with h1 h2
          subst h1 h2
          have hr' : C63 r' := (C63.app (k2 ▸ hl)).2
          obtain ⟨k3, k4⟩ := parts_sound hp f hr' hp2
          refine ⟨?_, ?_⟩
          · unfold areTrees
            rw [k1, k3]
            rfl
          · rw [k2, k4]
            show _ = (cellsOf d ++ cellsAll ds') ++ _
            rw [List.append_assoc]
theorem part_sound : ∀ (n : Nat) {l r : List Int} {t : PyData}, C63 l → part n l = some (t, r) → isTree n t = true ∧ l = cellsOf t ++ r
  | 0, l, r, t, hl, h => leaf_sound hl h
  | n + 1, [], r, t, hl, h => by cases h
  | n + 1, c :: l, r, t, hl, h => by
    unfold part at h
    dsimp only at h
    split at h
    · rename_i hc
      cases hp : partsF (part n) (l.length + 1) l with
      | none => rw [hp] at h; cases h
      | some q =>
        obtain ⟨ds, r'⟩ := q
        rw [hp] at h
        injection h with h
        injection h with h1 h2
        subst h1 h2 hc
        obtain ⟨k1, k2⟩ := parts_sound (fun hl h => part_sound n hl h) _ hl.tail hp
        refine ⟨?_, ?_⟩
        · unfold isTree
          exact k1
        · rw [k2]
          show _ = (27 :: (cellsAll ds ++ [28])) ++ r'
          simp
    · exact leaf_sound hl h
/-! #### complete -/
theorem tw_app {p : Int → Bool} : ∀ {w : List Int} {x : Int} {r : List Int}, (∀ c ∈ w, p c = true) → p x = false → (w ++ x :: r).takeWhile p = w ∧ (w ++ x :: r).dropWhile p = x :: r
  | [], x, r, _, hx => by simp [hx]
  | c :: w, x, r, h, hx => by
    have hc := h c (by simp)
    obtain ⟨k1, k2⟩ := tw_app (w := w) (x := x) (r := r) (fun y m => h y (List.mem_cons_of_mem _ m)) hx
    refine ⟨?_, ?_⟩
    · rw [List.cons_append, List.takeWhile_cons_of_pos hc, k1]
    · rw [List.cons_append, List.dropWhile_cons_of_pos hc, k2]
theorem num_complete {i : Int} (h0 : 0 ≤ i) (h1 : i ≤ 32767) (r : List Int) : numPart (numCells i ++ r) = some (.int i, r) := by
  have key : ∀ (w : List Int) (x : Int), (∀ c ∈ w, 32 ≤ c) → x < 32 → w.length ≤ 2 → ((w ++ [x]).head? ≠ some 32 ∨ w = []) → numOf ((w ++ [x]).map (· % 32)) = i → numPart (w ++ x :: r) = some (.int i, r) := by
    intro w x hw hx hl hd he
    obtain ⟨k1, k2⟩ := tw_app (p := isHi) (w := w) (x := x) (r := r) (fun c m => decide_eq_true (hw c m)) (decide_eq_false (by omega))
    unfold numPart
    rw [k1, k2]
    dsimp only
    rw [if_neg, he]
    rintro (z | ⟨z1, z2⟩)
    · omega
    · rcases hd with hd | hd
      · exact hd z2
      · subst hd
        simp at z1
  unfold numCells
  by_cases g1 : 1024 ≤ i
  · rw [if_pos g1]
    refine key [i / 1024 + 32, i / 32 % 32 + 32] (i % 32) (by simp; omega) (by omega) (by simp) (.inl (by simp; omega)) ?_
    show ((0 * 32 + (i / 1024 + 32) % 32) * 32 + (i / 32 % 32 + 32) % 32) * 32 + i % 32 % 32 = i
    omega
  · rw [if_neg g1]
    by_cases g2 : 32 ≤ i
    · rw [if_pos g2]
      refine key [i / 32 + 32] (i % 32) (by simp; omega) (by omega) (by simp) (.inl (by simp; omega)) ?_
      show (0 * 32 + (i / 32 + 32) % 32) * 32 + i % 32 % 32 = i
      omega
    · rw [if_neg g2]
      refine key [] (i % 32) (by simp) (by omega) (by simp) (.inr rfl) ?_
      show 0 * 32 + i % 32 % 32 = i
      omega
theorem leaf_word {w : List Nat} {l : Nat} {r : List Int} (h1 : (w ++ [l]).length ≤ 8) (h2 : ∀ c ∈ w ++ [l], 97 ≤ c ∧ c ≤ 122) : leafPart (wordCells (w ++ [l]) ++ r) = some (.str (wStr (w ++ [l])), r) := by
  rw [wordCells_snoc]
  have hlo : ∀ c ∈ w.map lw, 1 ≤ c ∧ c ≤ 26 := fun c m => by
    obtain ⟨a, ma, rfl⟩ := List.mem_map.mp m
    have := h2 a (List.mem_append_left _ ma)
    unfold lw
    omega
  have hx := h2 l (by simp)
  have hla : 33 ≤ lw l + 32 ∧ lw l + 32 ≤ 58 := by unfold lw; omega
  have ew : (w.map lw ++ [lw l + 32]).map (fun c => let1 (c % 32)) = w ++ [l] := by
    rw [List.map_append, List.map_map]
    have e1 : ∀ c ∈ w, ((fun c => let1 (c % 32)) ∘ lw) c = c := fun c m => by
      have := h2 c (List.mem_append_left _ m)
      show let1 (lw c % 32) = c
      unfold let1 lw
      omega
    rw [List.map_congr_left e1]
    simp only [List.map_id', List.map_cons, List.map_nil]
    have e2 : let1 ((lw l + 32) % 32) = l := by
      unfold let1 lw
      omega
    rw [e2]
  have key : wordPart (w.map lw ++ (lw l + 32) :: r) = some (.str (wStr (w ++ [l])), r) := by
    obtain ⟨k1, k2⟩ := tw_app (p := isLo) (w := w.map lw) (x := lw l + 32) (r := r) (fun c m => decide_eq_true (by have := hlo c m; omega)) (decide_eq_false (by omega))
    unfold wordPart
    rw [k1, k2]
    dsimp only
    rw [if_neg, ew]
    rintro (z | z | z)
    · rw [List.length_map] at z
      rw [List.length_append] at h1
      simp at h1
      omega
    · exact z (List.all_eq_true.mpr fun c m => is26_iff.mpr (hlo c m))
    · exact z (isLast_iff.mpr hla)
  rw [List.append_assoc]
  show leafPart (w.map lw ++ (lw l + 32) :: r) = _
  cases w with
  | nil =>
    show leafPart ((lw l + 32) :: r) = _
    rw [leaf_cons]
    have h59 : lw l + 32 ≠ 59 := by omega
    rw [if_neg (by omega), if_neg h59]
    exact key
  | cons a w =>
    show leafPart (lw a :: (w.map lw ++ (lw l + 32) :: r)) = _
    have := hlo (lw a) (by simp)
    rw [leaf_cons, if_neg (by omega), if_neg (by omega)]
    exact key
theorem leaf_str {x : Str} (h : isWord x = true) (r : List Int) : leafPart (wordCells x.cps.toList ++ r) = some (.str x, r) := by
  obtain ⟨g1, g2⟩ := Bool.and_eq_true_iff.mp h
  have h1 : x.cps.toList.length ≤ 8 := by
    have := of_decide_eq_true g1
    rw [Array.length_toList]
    exact this
  have h2 : ∀ c ∈ x.cps.toList, 97 ≤ c ∧ c ≤ 122 := fun c m => by
    have := List.all_eq_true.mp g2 c m
    simpa using this
  clear g1 g2 h
  have ex : x = wStr x.cps.toList := word_eq.symm
  generalize x.cps.toList = w at *
  subst ex
  rcases List.eq_nil_or_concat w with rfl | ⟨w', l, rfl⟩
  · rfl
  · rw [List.concat_eq_append] at h1 h2 ⊢
    exact leaf_word h1 h2
theorem first_ne : ∀ {n : Nat} {d : PyData} {r : List Int}, isTree n d = true → ∃ c l, cellsOf d ++ r = c :: l ∧ c ≠ 28 ∧ (c = 27 → ∃ ds, d = .tuple ds)
  | n, .none, r, h => ⟨29, r, rfl, by decide, fun z => absurd z (by decide)⟩
  | n, .bool b, r, h => by cases b <;> exact ⟨_, r, rfl, by decide, fun z => absurd z (by decide)⟩
  | n, .int i, r, h => ⟨59, numCells i ++ r, rfl, by decide, fun z => absurd z (by decide)⟩
  | n, .str x, r, h => by
    have h : isWord x = true := by cases n <;> (unfold isTree at h; exact h)
    obtain ⟨h1, h2⟩ := Bool.and_eq_true_iff.mp h
    have h2 : ∀ c ∈ x.cps.toList, 97 ≤ c ∧ c ≤ 122 := fun c m => by
      have := List.all_eq_true.mp h2 c m
      simpa using this
    show ∃ c l, wordCells x.cps.toList ++ r = c :: l ∧ _
    generalize x.cps.toList = w at *
    rcases List.eq_nil_or_concat w with rfl | ⟨w', l, rfl⟩
    · exact ⟨32, r, rfl, by decide, fun z => absurd z (by decide)⟩
    · rw [List.concat_eq_append] at h2 ⊢
      rw [wordCells_snoc]
      cases w' with
      | nil =>
        have := h2 l (by simp)
        exact ⟨lw l + 32, r, rfl, by unfold lw; omega, fun z => by unfold lw at z; omega⟩
      | cons a w' =>
        have := h2 a (by simp)
        exact ⟨lw a, _, rfl, by unfold lw; omega, fun z => by unfold lw at z; omega⟩
  | n, .tuple ds, r, h => ⟨27, cellsAll ds ++ [28] ++ r, rfl, by decide, fun _ => ⟨ds, rfl⟩⟩
  | n, .list _, _, h => by cases n <;> (unfold isTree at h; cases h)
  | n, .dict _, _, h => by cases n <;> (unfold isTree at h; cases h)
theorem parts_complete {n : Nat} {p : List Int → Option (PyData × List Int)} (hp : ∀ {t : PyData} {r : List Int}, isTree n t = true → p (cellsOf t ++ r) = some (t, r)) : ∀ (ds : List PyData) (f : Nat) {r : List Int}, areTrees n ds = true → ds.length < f → partsF p f (cellsAll ds ++ 28 :: r) = some (ds, r)
  | [], f + 1, r, _, _ => by
    show (if (28 : Int) = 28 then _ else _) = _
    rw [if_pos rfl]
  | d :: ds, f + 1, r, h, hf => by
    unfold areTrees at h
    obtain ⟨h1, h2⟩ := Bool.and_eq_true_iff.mp h
    show partsF p (f + 1) ((cellsOf d ++ cellsAll ds) ++ 28 :: r) = _
    rw [List.append_assoc]
    obtain ⟨c, l, e, hc, _⟩ := first_ne (r := cellsAll ds ++ 28 :: r) h1
    have hq := hp (r := cellsAll ds ++ 28 :: r) h1
    rw [e] at hq ⊢
    unfold partsF
    rw [if_neg hc, hq]
    dsimp only
    rw [parts_complete hp ds f h2 (by simp at hf; omega)]
theorem all_len : ∀ {n : Nat} {ds : List PyData}, areTrees n ds = true → ds.length ≤ (cellsAll ds).length
  | n, [], _ => Nat.zero_le _
  | n, d :: ds, h => by
    unfold areTrees at h
    obtain ⟨h1, h2⟩ := Bool.and_eq_true_iff.mp h
    have := all_len h2
    have hne := cells_ne h1
    have : 0 < (cellsOf d).length := List.length_pos_iff.mpr hne
    show ds.length + 1 ≤ (cellsOf d ++ cellsAll ds).length
    rw [List.length_append]
    omega
theorem part_complete : ∀ (n : Nat) {t : PyData} {r : List Int}, isTree n t = true → part n (cellsOf t ++ r) = some (t, r) := by
  have leafs : ∀ {n : Nat} {t : PyData} {r : List Int}, isTree n t = true → (∀ ds, t ≠ .tuple ds) → leafPart (cellsOf t ++ r) = some (t, r) := by
    intro n t r h hn
    cases t with
    | none => rfl
    | bool b => cases b <;> rfl
    | int i =>
      have h : (decide (0 ≤ i) && decide (i ≤ 32767)) = true := by cases n <;> (unfold isTree at h; exact h)
      obtain ⟨h1, h2⟩ := Bool.and_eq_true_iff.mp h
      show numPart (numCells i ++ r) = _
      exact num_complete (of_decide_eq_true h1) (of_decide_eq_true h2) r
    | str x =>
      have h : isWord x = true := by cases n <;> (unfold isTree at h; exact h)
      exact leaf_str h r
    | tuple ds => exact absurd rfl (hn ds)
    | list _ => cases n <;> (unfold isTree at h; cases h)
    | dict _ => cases n <;> (unfold isTree at h; cases h)
  intro n
  induction n with
  | zero =>
    intro t r h
    refine leafs h fun ds z => ?_
    subst z
    unfold isTree at h
    cases h
  | succ n ih =>
    intro t r h
    by_cases ht : ∃ ds, t = .tuple ds
    · obtain ⟨ds, rfl⟩ := ht
      unfold isTree at h
      show part (n + 1) (27 :: ((cellsAll ds ++ [28]) ++ r)) = _
      unfold part
      dsimp only
      rw [if_pos rfl, List.append_assoc]
      show (match partsF (part n) _ (cellsAll ds ++ 28 :: r) with | none => none | some (ds, r') => some (PyData.tuple ds, r')) = _
      rw [parts_complete (fun h => ih h) ds _ h (by have := all_len h; simp; omega)]
    · obtain ⟨c, l, e, _, hc⟩ := first_ne (r := r) h
      have hl := leafs (r := r) h fun ds z => ht ⟨ds, z⟩
      rw [e] at hl ⊢
      unfold part
      dsimp only
      rw [if_neg fun z => ht (hc z), hl]
def wholeTree (l : List Int) : Option PyData := match part 12 l with
  | some (t, []) => some t
  | _ => none
theorem whole_iff {l : List Int} (hl : C63 l) {t : PyData} : wholeTree l = some t ↔ isTree 12 t = true ∧ l = cellsOf t := by
  constructor
  · intro h
    unfold wholeTree at h
    split at h
    · rename_i t' e
      injection h with h
      subst h
      obtain ⟨k1, k2⟩ := part_sound 12 hl e
      rw [List.append_nil] at k2
      exact ⟨k1, k2⟩
    · cases h
  · rintro ⟨h1, rfl⟩
    have := part_complete 12 (r := []) h1
    rw [List.append_nil] at this
    unfold wholeTree
    rw [this]
end K18
set_option Elab.async false
set_option linter.all false
set_option maxRecDepth 100000
set_option maxHeartbeats 4000000
namespace K18
open PySem PySem.Spec PyProof.Rows L2 Kb
/-! ### what the reading holds, and how it can go on -/
def StkOk : List (List PyData) → Prop
  | [] => True
  | x :: r => areTrees (12 - (r.length + 1)) x = true ∧ r.length + 1 ≤ 12 ∧ StkOk r
def stkCells : List (List PyData) → List Int
  | [] => []
  | x :: r => stkCells r ++ 27 :: cellsAll x
def digCells : Option (List Int) → List Int
  | none => []
  | some ds => 59 :: ds.map (· + 32)
def wholeCells : List PyData → List Int
  | [] => []
  | d :: _ => cellsOf d
def sCells (s : RS) : List Int := wholeCells s.whole ++ stkCells s.stack ++ s.word.map lw ++ digCells s.digits
structure SI (s : RS) : Prop where
  w : s.whole = [] ∨ (∃ d, s.whole = [d] ∧ isTree 12 d = true ∧ s.stack = [] ∧ s.word = [] ∧ s.digits = none)
  st : StkOk s.stack
  wl : s.word.length < 8
  wd : ∀ c ∈ s.word, 97 ≤ c ∧ c ≤ 122
  dg : ∀ ds, s.digits = some ds → s.word = [] ∧ ds.length ≤ 2 ∧ (∀ c ∈ ds, 0 ≤ c ∧ c < 32) ∧ ds.head? ≠ some 0
theorem SI.nil : SI .nil := ⟨.inl rfl, trivial, by decide, fun _ m => (by cases m), fun _ e => by cases e⟩
theorem put_si {st : List (List PyData)} {d : PyData} (hs : StkOk st) (hd : isTree (12 - st.length) d = true) : SI ((⟨[], st, [], none⟩ : RS).put d) ∧ sCells ((⟨[], st, [], none⟩ : RS).put d) = stkCells st ++ cellsOf d := by
  cases st with
  | nil =>
    refine ⟨⟨.inr ⟨d, rfl, hd, rfl, rfl, rfl⟩, trivial, by show 0 < 8; omega, fun _ m => (by cases m), fun _ e => by cases e⟩, ?_⟩
    show cellsOf d ++ [] ++ [] ++ [] = [] ++ cellsOf d
    simp
  | cons x r =>
    obtain ⟨h1, h2, h3⟩ := hs
    refine ⟨⟨.inl rfl, ⟨?_, h2, h3⟩, by show 0 < 8; omega, fun _ m => (by cases m), fun _ e => by cases e⟩, ?_⟩
    · rw [areTrees_app, h1]
      unfold areTrees
      rw [show (x :: r).length = r.length + 1 from rfl] at hd
      rw [hd]
      unfold areTrees
      rfl
    · show [] ++ (stkCells r ++ 27 :: cellsAll (x ++ [d])) ++ [] ++ [] = (stkCells r ++ 27 :: cellsAll x) ++ cellsOf d
      rw [cellsAll_app]
      show [] ++ (stkCells r ++ 27 :: (cellsAll x ++ (cellsOf d ++ []))) ++ [] ++ [] = _
      simp
theorem tree_any {d : PyData} (h : ∀ n, isTree n d = true) (st : List (List PyData)) : isTree (12 - st.length) d = true := h _
theorem dig_si {st : List (List PyData)} {ds : List Int} {c : Int} {s' : RS} (hs : StkOk st) (h2 : ds.length ≤ 2) (h3 : ∀ c ∈ ds, 0 ≤ c ∧ c < 32) (h4 : ds.head? ≠ some 0) (hc : 0 ≤ c ∧ c ≤ 63)
    (h : stepDigit ⟨[], st, [], some ds⟩ ds c = some s') : SI s' ∧ sCells s' = (stkCells st ++ 59 :: ds.map (· + 32)) ++ [c] := by
  unfold stepDigit at h
  split at h
  · rename_i g
    split at h
    · rename_i g2
      obtain ⟨g2, g3⟩ := g2
      injection h with h
      subst h
      refine ⟨⟨.inl rfl, hs, by show 0 < 8; omega, fun _ m => (by cases m), fun ds' e => ?_⟩, ?_⟩
      · injection e with e
        subst e
        refine ⟨rfl, by omega, fun a m => ?_, ?_⟩
        · rcases List.mem_append.mp m with m | m
          · exact h3 a m
          · have := List.mem_singleton.mp m
            omega
        · cases ds with
          | nil =>
            have : 32 < c := by
              rcases g3 with g3 | g3
              · exact g3
              · simp at g3
            intro z
            have z : some (c % 32) = some 0 := z
            injection z with z
            omega
          | cons a r => exact h4
      · show [] ++ stkCells st ++ [] ++ 59 :: (ds ++ [c % 32]).map (· + 32) = _
        rw [List.map_append]
        show [] ++ stkCells st ++ [] ++ 59 :: (ds.map (· + 32) ++ [c % 32 + 32]) = _
        rw [show c % 32 + 32 = c by omega]
        simp
    · cases h
  · rename_i g
    injection h with h
    subst h
    have hx : c < 32 := by omega
    have key : ∃ i : Int, numOf (ds ++ [c % 32]) = i ∧ 0 ≤ i ∧ i ≤ 32767 ∧ numCells i = ds.map (· + 32) ++ [c] := by
      match ds with
      | [] =>
        refine ⟨c, ?_, by omega, by omega, ?_⟩
        · show 0 * 32 + c % 32 = c
          omega
        · unfold numCells
          rw [if_neg (by omega), if_neg (by omega), show c % 32 = c by omega]
          rfl
      | [a] =>
        have ha := h3 a (by simp)
        have ha2 : a ≠ 0 := fun z => h4 (by simp [z])
        refine ⟨a * 32 + c, ?_, by omega, by omega, ?_⟩
        · show (0 * 32 + a) * 32 + c % 32 = a * 32 + c
          omega
        · unfold numCells
          rw [if_neg (by omega), if_pos (by omega), show (a * 32 + c) / 32 + 32 = a + 32 by omega, show (a * 32 + c) % 32 = c by omega]
          rfl
      | [a, b] =>
        have ha := h3 a (by simp)
        have hb := h3 b (by simp)
        have ha2 : a ≠ 0 := fun z => h4 (by simp [z])
        refine ⟨(a * 32 + b) * 32 + c, ?_, by omega, by omega, ?_⟩
        · show ((0 * 32 + a) * 32 + b) * 32 + c % 32 = (a * 32 + b) * 32 + c
          omega
        · unfold numCells
          rw [if_pos (by omega), show ((a * 32 + b) * 32 + c) / 1024 + 32 = a + 32 by omega, show ((a * 32 + b) * 32 + c) / 32 % 32 + 32 = b + 32 by omega, show ((a * 32 + b) * 32 + c) % 32 = c by omega]
          rfl
      | a :: b :: e :: r => exact absurd h2 (by simp)
    obtain ⟨i, e1, i0, i1, e2⟩ := key
    rw [e1]
    obtain ⟨k1, k2⟩ := put_si (d := .int i) hs (by
      generalize 12 - st.length = n
      cases n <;> (unfold isTree; simp [i0, i1]))
    refine ⟨k1, k2.trans ?_⟩
    show stkCells st ++ 59 :: numCells i = _
    rw [e2]
    simp
theorem isLetter_split {c : Int} (h : isLetter c = true) : (1 ≤ c ∧ c ≤ 26) ∨ (33 ≤ c ∧ c ≤ 58) := by
  unfold isLetter at h
  simpa using h
theorem letter_si {st : List (List PyData)} {wd : List Nat} {c : Int} {s' : RS} (hs : StkOk st) (hl : wd.length < 8) (hw : ∀ c ∈ wd, 97 ≤ c ∧ c ≤ 122) (hc : isLetter c = true)
    (h : stepLetter ⟨[], st, wd, none⟩ c = some s') : SI s' ∧ sCells s' = (stkCells st ++ wd.map lw) ++ [c] := by
  unfold stepLetter at h
  split at h
  · rename_i g
    have hb : 1 ≤ c ∧ c ≤ 26 := by
      rcases isLetter_split hc with z | z
      · exact z
      · omega
    obtain ⟨e1, e2⟩ := let_low hb.1 hb.2
    split at h
    · rename_i g2
      injection h with h
      subst h
      refine ⟨⟨.inl rfl, hs, g2, fun a m => ?_, fun _ e => by cases e⟩, ?_⟩
      · rcases List.mem_append.mp m with m | m
        · exact hw a m
        · have := List.mem_singleton.mp m
          subst this
          exact e2
      · show [] ++ stkCells st ++ (wd ++ [let1 (c % 32)]).map lw ++ [] = _
        rw [List.map_append]
        show [] ++ stkCells st ++ (wd.map lw ++ [lw (let1 (c % 32))]) ++ [] = _
        rw [e1]
        simp
    · cases h
  · rename_i g
    have hb : 33 ≤ c ∧ c ≤ 58 := by
      rcases isLetter_split hc with z | z
      · omega
      · exact z
    obtain ⟨e1, e2⟩ := let_high hb.1 hb.2
    injection h with h
    subst h
    obtain ⟨k1, k2⟩ := put_si (d := .str (wStr (wd ++ [let1 (c % 32)]))) hs (by
      have : isWord (wStr (wd ++ [let1 (c % 32)])) = true := isWord_of (by rw [List.length_append]; show wd.length + 1 ≤ 8; omega) fun a m => by
        rcases List.mem_append.mp m with m | m
        · exact hw a m
        · have := List.mem_singleton.mp m
          subst this
          exact e2
      generalize 12 - st.length = n
      cases n <;> (unfold isTree; exact this))
    refine ⟨k1, k2.trans ?_⟩
    show stkCells st ++ wordCells (wd ++ [let1 (c % 32)]) = _
    rw [wordCells_snoc, e1]
    simp
theorem step_si {s s' : RS} {c : Int} (h : SI s) (hc : 0 ≤ c ∧ c ≤ 63) (e : step s c = some s') : SI s' ∧ sCells s' = sCells s ++ [c] := by
  obtain ⟨wh, st, wd, dg⟩ := s
  have hwh : wh = [] := by
    unfold step at e
    split at e
    · assumption
    · cases e
  subst hwh
  cases dg with
  | some ds =>
    obtain ⟨h1, h2, h3, h4⟩ := h.dg ds rfl
    have h1 : wd = [] := h1
    subst h1
    obtain ⟨k1, k2⟩ := dig_si h.st h2 h3 h4 hc e
    refine ⟨k1, k2.trans ?_⟩
    show _ = [] ++ stkCells st ++ [] ++ (59 :: ds.map (· + 32)) ++ [c]
    simp
  | none =>
    cases hl : isLetter c with
    | true =>
      rw [step_let hl] at e
      obtain ⟨k1, k2⟩ := letter_si h.st h.wl h.wd hl e
      refine ⟨k1, k2.trans ?_⟩
      show _ = [] ++ stkCells st ++ wd.map lw ++ [] ++ [c]
      simp
    | false =>
      have hw : wd = [] := by
        unfold step at e
        dsimp only at e
        rw [if_pos rfl, hl] at e
        simp only [Bool.false_eq_true, if_false] at e
        split at e
        · assumption
        · cases e
      subst hw
      rw [step_calm ⟨rfl, rfl, rfl⟩, hl] at e
      simp only [Bool.false_eq_true, if_false] at e
      have es : sCells ⟨[], st, [], none⟩ = stkCells st := by
        show [] ++ stkCells st ++ [] ++ [] = _
        simp
      rw [es]
      split at e
      · rename_i g
        subst g
        injection e with e
        subst e
        refine ⟨⟨.inl rfl, h.st, by show 0 < 8; omega, fun _ m => (by cases m), fun ds z => ?_⟩, ?_⟩
        · injection z with z
          subst z
          exact ⟨rfl, by simp, fun _ m => (by cases m), by simp⟩
        · show [] ++ stkCells st ++ [] ++ [59] = _
          simp
      · split at e
        · rename_i g
          subst g
          split at e
          · rename_i g
            injection e with e
            subst e
            refine ⟨⟨.inl rfl, ⟨by unfold areTrees; rfl, g, h.st⟩, by show 0 < 8; omega, fun _ m => (by cases m), fun ds z => by cases z⟩, ?_⟩
            show [] ++ (stkCells st ++ 27 :: []) ++ [] ++ [] = _
            simp
          · cases e
        · split at e
          · rename_i g
            subst g
            cases st with
            | nil => cases e
            | cons x r =>
              injection e with e
              subst e
              obtain ⟨h1, h2, h3⟩ := h.st
              obtain ⟨k1, k2⟩ := put_si (d := .tuple x) h3 (by
                rw [show 12 - r.length = (12 - (r.length + 1)) + 1 by omega]
                unfold isTree
                exact h1)
              refine ⟨k1, k2.trans ?_⟩
              show stkCells r ++ 27 :: (cellsAll x ++ [28]) = (stkCells r ++ 27 :: cellsAll x) ++ [28]
              simp
          · unfold stepPlain at e
            have fin : ∀ d : PyData, (∀ n, isTree n d = true) → cellsOf d = [c] → (⟨[], st, [], none⟩ : RS).put d = s' → SI s' ∧ sCells s' = stkCells st ++ [c] := by
              intro d h1 h2 h3
              subst h3
              rw [← h2]
              exact put_si h.st (h1 _)
            split at e
            · rename_i g
              injection e with e
              exact fin .none (fun n => by cases n <;> rfl) (by rw [g]; rfl) e
            · split at e
              · rename_i g
                injection e with e
                exact fin (.str (wStr [])) (fun n => by cases n <;> rfl) (by rw [g]; rfl) e
              · split at e
                · rename_i g
                  injection e with e
                  refine fin _ (fun n => by cases n <;> rfl) ?_ e
                  rcases g with g | g <;> (rw [g]; rfl)
                · cases e
theorem runs_si : ∀ {l : List Int} {s s' : RS} {i : Nat}, SI s → C63 l → runs s i l = .ok s' → SI s' ∧ sCells s' = sCells s ++ l
  | [], s, s', i, h, _, e => by
    injection e with e
    subst e
    exact ⟨h, (List.append_nil _).symm⟩
  | c :: l, s, s', i, h, hl, e => by
    cases hs : step s c with
    | none => rw [runs_none hs] at e; cases e
    | some s1 =>
      rw [runs_some hs] at e
      obtain ⟨k1, k2⟩ := step_si h (hl c (by simp)) hs
      obtain ⟨k3, k4⟩ := runs_si k1 hl.tail e
      refine ⟨k3, ?_⟩
      rw [k4, k2]
      simp
theorem tree_ok {ns : List Int} {d : PyData} (hl : C63 ns) (h : treeOf ns = .ok d) : isTree 12 d = true ∧ ns = cellsOf d := by
  unfold treeOf at h
  cases e : runs .nil 0 ns with
  | error i => rw [e] at h; cases h
  | ok s =>
    rw [e] at h
    dsimp only at h
    obtain ⟨k1, k2⟩ := runs_si SI.nil hl e
    rcases k1.w with w | ⟨d', w, h2, h3, h4, h5⟩
    · rw [w] at h
      cases h
    · rw [w] at h
      injection h with h
      subst h
      refine ⟨h2, ?_⟩
      unfold sCells at k2
      rw [w, h3, h4, h5] at k2
      have k2 : cellsOf d' ++ [] ++ [] ++ [] = ([] ++ [] ++ [] ++ []) ++ ns := k2
      simpa using k2.symm
theorem close_all : ∀ (st : List (List PyData)) (d : PyData) (i : Nat), ∃ s' e, runs ((⟨[], st, [], none⟩ : RS).put d) i (List.replicate st.length 28) = .ok s' ∧ s'.whole = [e]
  | [], d, i => ⟨_, d, rfl, rfl⟩
  | x :: r, d, i => by
    obtain ⟨s', e, h1, h2⟩ := close_all r (.tuple (x ++ [d])) (i + 1)
    refine ⟨s', e, ?_, h2⟩
    show runs ⟨[], (x ++ [d]) :: r, [], none⟩ i (28 :: List.replicate r.length 28) = _
    rw [runs_some (s' := (⟨[], r, [], none⟩ : RS).put (.tuple (x ++ [d]))) rfl]
    exact h1
def tails : List (List Int) := [[], [33], [1], [29]]
theorem stkOk_len {st : List (List PyData)} (h : StkOk st) : st.length ≤ 12 := by
  cases st with
  | nil => exact Nat.zero_le _
  | cons x r => exact h.2.1
theorem goes_on {s : RS} (h : SI s) (i : Nat) : ∃ tail ∈ tails, ∃ m, m < 13 ∧ ∃ s' e, runs s i (tail ++ List.replicate m 28) = .ok s' ∧ s'.whole = [e] := by
  obtain ⟨wh, st, wd, dg⟩ := s
  have hlen : st.length ≤ 12 := stkOk_len h.st
  rcases h.w with w | ⟨d, w, h2, h3, h4, h5⟩
  · have w : wh = [] := w
    subst w
    cases dg with
    | some ds =>
      obtain ⟨h1, h2, h3, h4⟩ := h.dg ds rfl
      have h1 : wd = [] := h1
      subst h1
      obtain ⟨s', e, k1, k2⟩ := close_all st (.int (numOf (ds ++ [1 % 32]))) (i + 1)
      refine ⟨[1], by simp [tails], st.length, by omega, s', e, ?_, k2⟩
      show runs _ i (1 :: List.replicate st.length 28) = _
      rw [runs_some (dig_last (by decide))]
      exact k1
    | none =>
      by_cases hw : wd = []
      · subst hw
        cases st with
        | nil =>
          refine ⟨[29], by simp [tails], 0, by omega, _, .none, rfl, rfl⟩
        | cons x r =>
          obtain ⟨s', e, k1, k2⟩ := close_all r (.tuple x) (i + 1)
          refine ⟨[], by simp [tails], r.length + 1, by have : r.length + 1 ≤ 12 := hlen; omega, s', e, ?_, k2⟩
          show runs ⟨[], x :: r, [], none⟩ i (28 :: List.replicate r.length 28) = _
          rw [runs_some (s' := (⟨[], r, [], none⟩ : RS).put (.tuple x)) rfl]
          exact k1
      · obtain ⟨s', e, k1, k2⟩ := close_all st (.str (wStr (wd ++ [let1 (33 % 32)]))) (i + 1)
        refine ⟨[33], by simp [tails], st.length, by omega, s', e, ?_, k2⟩
        show runs _ i (33 :: List.replicate st.length 28) = _
        rw [runs_some (s' := (⟨[], st, [], none⟩ : RS).put (.str (wStr (wd ++ [let1 (33 % 32)])))) (by rw [step_let (by decide)]; rfl)]
        exact k1
  · refine ⟨[], by simp [tails], 0, by omega, _, d, rfl, w⟩
/-- whether the cells so far begin some tree's -/
def good (l : List Int) : Bool := match runs .nil 0 l with
  | .ok _ => true
  | .error _ => false
theorem good_iff {l : List Int} : good l = true ↔ ∃ s, runs .nil 0 l = .ok s := by
  unfold good
  cases runs .nil 0 l with
  | error i => simp
  | ok s => simp
theorem tails63 {t : List Int} (h : t ∈ tails) : C63 t := by
  unfold tails at h
  simp at h
  rcases h with rfl | rfl | rfl | rfl <;> (intro c m; simp at m; try omega)
theorem rep63 (m : Nat) : C63 (List.replicate m 28) := fun c h => by
  have := (List.mem_replicate.mp h).2
  omega
theorem C63.append {a b : List Int} (h1 : C63 a) (h2 : C63 b) : C63 (a ++ b) := fun c m => by
  rcases List.mem_append.mp m with m | m
  · exact h1 c m
  · exact h2 c m
theorem whole_tree_of {l : List Int} (hl : C63 l) {t : PyData} : wholeTree l = some t ↔ treeOf l = .ok t := by
  rw [whole_iff hl]
  constructor
  · rintro ⟨h1, rfl⟩
    exact tree_back h1
  · exact fun h => tree_ok hl h
def anyTail (l : List Int) : Bool := tails.any fun t => (List.range 13).any fun m => (wholeTree (l ++ t ++ List.replicate m 28)).isSome
theorem any_good {l : List Int} (hl : C63 l) : anyTail l = good l := by
  rw [Bool.eq_iff_iff]
  constructor
  · intro h
    obtain ⟨t, mt, h⟩ := List.any_eq_true.mp h
    obtain ⟨m, mm, h⟩ := List.any_eq_true.mp h
    obtain ⟨d, hd⟩ := Option.isSome_iff_exists.mp h
    have h3 := (whole_tree_of ((hl.append (tails63 mt)).append (rep63 m))).mp hd
    unfold treeOf at h3
    rw [List.append_assoc, runs_app] at h3
    cases e : runs .nil 0 l with
    | error i => rw [e] at h3; cases h3
    | ok s => exact good_iff.mpr ⟨s, e⟩
  · intro h
    obtain ⟨s, e⟩ := good_iff.mp h
    obtain ⟨k1, k2⟩ := runs_si SI.nil hl e
    obtain ⟨t, mt, m, hm, s', d, k3, k4⟩ := goes_on k1 (0 + l.length)
    refine List.any_eq_true.mpr ⟨t, mt, List.any_eq_true.mpr ⟨m, List.mem_range.mpr hm, Option.isSome_iff_exists.mpr ⟨d, ?_⟩⟩⟩
    refine (whole_tree_of ((hl.append (tails63 mt)).append (rep63 m))).mpr ?_
    unfold treeOf
    rw [List.append_assoc, runs_app, e]
    dsimp only
    rw [k3]
    dsimp only
    rw [k4]
theorem good_take {l : List Int} {j k : Nat} (h : good (l.take k) = true) (hj : j ≤ k) : good (l.take j) = true := by
  obtain ⟨s, e⟩ := good_iff.mp h
  have : l.take k = l.take j ++ (l.take k).drop j := by
    have := (List.take_append_drop j (l.take k)).symm
    rwa [List.take_take, Nat.min_eq_left hj] at this
  rw [this, runs_app] at e
  cases e2 : runs .nil 0 (l.take j) with
  | error i => rw [e2] at e; cases e
  | ok s => exact good_iff.mpr ⟨s, e2⟩
/-- where the search ends -/
theorem low_told {ns : List Int} {low : Nat} (hlow : low ≤ ns.length) (h1 : good (ns.take low) = true) (h2 : low < ns.length → good (ns.take (low + 1)) = false) (hn : wholeTree ns = none) (hl : C63 ns) :
    treeOf ns = .error low := by
  by_cases h : low < ns.length
  · obtain ⟨s, e⟩ := good_iff.mp h1
    obtain ⟨k1, k2⟩ := runs_snoc .nil ns low (c := ns[low]) (List.getElem?_eq_getElem h) s e
    have hno : step s ns[low] = none := by
      cases hs : step s ns[low] with
      | none => rfl
      | some s' =>
        have := good_iff.mpr ⟨s', k1 s' hs⟩
        rw [h2 h] at this
        cases this
    unfold treeOf
    rw [k2 hno]
  · have hlow : low = ns.length := by omega
    subst hlow
    rw [List.take_length] at h1
    obtain ⟨s, e⟩ := good_iff.mp h1
    cases ht : treeOf ns with
    | ok d =>
      rw [(whole_tree_of hl).mpr ht] at hn
      cases hn
    | error i =>
      unfold treeOf at ht
      rw [e] at ht
      dsimp only at ht
      cases hw : s.whole with
      | nil =>
        rw [hw] at ht
        injection ht with ht
        rw [ht]
      | cons d r =>
        rw [hw] at ht
        cases ht
end K18
set_option Elab.async false
set_option linter.all false
set_option maxRecDepth 100000
set_option maxHeartbeats 4000000
namespace K18
open PySem PySem.Spec PyProof.Rows L2 Kb
theorem with_rest {t REST : TS} {D : Ends} {σ : L2.St} {H : Hp} (h : ∀ Rn : L2.St → Hp → Prop, Rn = REST D → t { D with nx := Rn } σ H) : tSeq t REST D σ H := h _ rfl
theorem lenL {K : PySem.W.Frag} {H : Hp} {l : Addr} {xs : List V} {n : Nat} (e : H l = some (.lst xs)) (h : xs.length = n) : LenV K (.ref l) H n := .inl ⟨_, sqL e, h.symm⟩
theorem cut_mid (xs : List V) (i j : Nat) : cutV xs (some (i : Int)) (some (j : Int)) = (xs.drop i).take (j - i) := by
  unfold cutV
  rw [HT.sIx_nat, HT.sIx_nat]
  rcases Nat.le_total i xs.length with h | h
  · rw [Nat.min_eq_left h]
    rcases Nat.le_total j xs.length with h2 | h2
    · rw [Nat.min_eq_left h2]
    · rw [Nat.min_eq_right h2]
      rw [List.take_of_length_le (i := j - i) (by rw [List.length_drop]; omega), List.take_of_length_le (by rw [List.length_drop]; omega)]
  · rw [Nat.min_eq_right h, List.drop_of_length_le (Nat.le_refl _), List.drop_of_length_le h]
    simp
/-- what the reader tells -/
def PartRes (ns : List Int) (H' : Hp) (x : V) : Option (PyData × List Int) → Prop
  | none => x = .non
  | some (t, r) => ∃ p v, x = .ref p ∧ H' p = some (.tup [v, .int ((ns.length - r.length : Nat) : Int)]) ∧ ∀ S, Da S H' v t
def PartOk (ns : List Int) (o : Option (PyData × List Int)) : Prop := ∀ t r, o = some (t, r) → r = ns.drop (ns.length - r.length) ∧ r.length < ns.length
theorem drop_suf {ns w r : List Int} {i : Nat} (h : ns.drop i = w ++ r) : r = ns.drop (ns.length - r.length) := by
  have h1 : ns = ns.take i ++ w ++ r := by
    conv => lhs; rw [← List.take_append_drop i ns, h]
    rw [List.append_assoc]
  have h2 : ns.length - r.length = (ns.take i ++ w).length := by
    have := congrArg List.length h1
    rw [List.length_append] at this
    omega
  rw [h2]
  conv => rhs; arg 2; rw [h1]
  rw [List.drop_left]
theorem drop_cons {ns : List Int} {i : Nat} {c : Int} (hc : ns[i]? = some c) : ns.drop i = c :: ns.drop (i + 1) := by
  obtain ⟨h, rfl⟩ := List.getElem?_eq_some_iff.mp hc
  exact List.drop_eq_getElem_cons h
theorem parts_step {m g : Nat} {c : Int} {l : List Int} {t : PyData} {r : List Int} (hc : c ≠ 28) (h : part m (c :: l) = some (t, r)) : partsF (part m) (g + 1) (c :: l) = match partsF (part m) g r with
    | none => none
    | some (ds, r') => some (t :: ds, r') := by
  conv => lhs; unfold partsF
  rw [if_neg hc, h]
  all_goals rfl
theorem parts_stop {m g : Nat} {c : Int} {l : List Int} (hc : c ≠ 28) (h : part m (c :: l) = none) : partsF (part m) (g + 1) (c :: l) = none := by
  unfold partsF
  rw [if_neg hc, h]
theorem part_tup {m : Nat} {l : List Int} : part (m + 1) (27 :: l) = match partsF (part m) (l.length + 1) l with
    | none => none
    | some (ds, r) => some (.tuple ds, r) := by
  conv => lhs; unfold part
  dsimp only
  rw [if_pos rfl]
  all_goals rfl
theorem part_leaf {n : Nat} {c : Int} {l : List Int} (h : c ≠ 27 ∨ n = 0) : part n (c :: l) = leafPart (c :: l) := by
  cases n with
  | zero => rfl
  | succ m =>
    unfold part
    dsimp only
    rw [if_neg (by rcases h with h | h; exact h; cases h)]
theorem scan_end {p : Int → Bool} {ns : List Int} {st e : Nat} {x : Int} (h1 : st ≤ e) (hx : ns[e]? = some x) (h2 : ∀ y ∈ (ns.drop st).take (e - st), p y = true) (h3 : p x = false) :
    (ns.drop st).takeWhile p = (ns.drop st).take (e - st) ∧ (ns.drop st).dropWhile p = x :: ns.drop (e + 1) ∧ (ns.drop st).take (e + 1 - st) = (ns.drop st).take (e - st) ++ [x] := by
  have e1 : (ns.drop st).drop (e - st) = x :: ns.drop (e + 1) := by
    rw [List.drop_drop, show st + (e - st) = e by omega]
    exact drop_cons hx
  have e2 : ns.drop st = (ns.drop st).take (e - st) ++ x :: ns.drop (e + 1) := by
    conv => lhs; rw [← List.take_append_drop (e - st) (ns.drop st), e1]
  obtain ⟨k1, k2⟩ := tw_app (r := ns.drop (e + 1)) h2 h3
  rw [← e2] at k1 k2
  refine ⟨k1, k2, ?_⟩
  rw [show e + 1 - st = (e - st) + 1 by omega, List.take_add_one]
  congr 1
  rw [List.getElem?_drop, show st + (e - st) = e by omega, hx]
  rfl
theorem scan_all {p : Int → Bool} : ∀ {l : List Int}, (∀ y ∈ l, p y = true) → l.dropWhile p = []
  | [], _ => rfl
  | c :: l, h => by
    rw [List.dropWhile_cons_of_pos (h c (by simp))]
    exact scan_all fun y m => h y (List.mem_cons_of_mem _ m)
theorem sletters_at : ∀ n : Fin 27, (" abcdefghijklmnopqrstuvwxyz" : Str).cps.toList[n.val]? = some (if n.val = 0 then 32 else 96 + n.val) := by decide +kernel
theorem sletters_ix {c : Int} (h1 : 1 ≤ c % 32) (h2 : c % 32 ≤ 26) : atI (" abcdefghijklmnopqrstuvwxyz" : Str).cps.toList (c % 32) = some (let1 (c % 32)) := by
  obtain ⟨n, hn⟩ : ∃ n : Nat, c % 32 = n := ⟨(c % 32).toNat, by omega⟩
  rw [hn]
  have := sletters_at ⟨n, by omega⟩
  rw [if_neg (by show ¬ n = 0; omega)] at this
  rw [atI_at this]
  unfold let1
  congr 1
theorem num_le2 {ds : List Int} (h1 : ds.length ≤ 3) (h2 : ∀ d ∈ ds, 0 ≤ d ∧ d ≤ 31) {i : Nat} (hi : i ≤ ds.length) : 0 ≤ numOf (ds.take i) ∧ numOf (ds.take i) ≤ 32767 := num_le ds h1 h2 i hi
def rInt1 (xs : List V) (H : Hp) (Q : VK) : Prop := (∃ i, xs = [.int i] ∧ Q (.int i) H) ∨ ∃ k, xs = [.bl k] ∧ Q (.int (if k then 1 else 0)) H
section
variable {P : Program} {w : World} {K : PySem.W.Frag} {mg : Str → Option Value} {base : Heap}
/-! ### _law_part_in -/
abbrev NP : List Str := ["cells", "at", "deep", "cell", "parts", "told", "end", "number", "digit", "one"]
def spPartIn (n : Nat) : Sp := fun vs H Q _ => ∃ (a : Addr) (ns : List Int) (i : Nat), vs = [.ref a, .int (i : Int), .int ((n : Nat) : Int)] ∧ H a = some (.lst (ns.map V.int)) ∧ C63 ns ∧ ns.length ≤ 900 ∧ i ≤ ns.length ∧
  ∀ H' x, Kp [] H H' → PartRes ns H' x (part n (ns.drop i)) → Q x H'
theorem ok_part_step {f : Addr} {fd : FuncData} {k : Nat} (n : Nat) (sp0 : Sp) (h0 : ∀ m, n = m + 1 → sp0 = spPartIn m) (F : Fun K "_law_part_in" "_law_part_in" s_l_part_in f fd) (T : Bi mg)
    (b0 : Binds K fd ["cells", "at", "deep"] []) (g0 : mg "_law_part_in" = some (.ref f)) (G0 : FnOk P w K mg base CX0 (k + n) f fd ["cells", "at", "deep"] sp0) :
    FnOk P w K mg base CX0 (k + 1 + n) f fd ["cells", "at", "deep"] (spPartIn n) := by
  rw [show k + 1 + n = k + n + 1 by omega]
  refine F.ok sc_l_part_in (fun vs H Q E h => ?_) (fun cdv A outer s H vs Q E hr h => ?_)
  · obtain ⟨_, _, _, rfl, _⟩ := h
    rfl
  · obtain ⟨a, ns, i, rfl, hS, hC, hlen, hi, q⟩ := h
    refine ⟨_, (pss_cons (ps_if (pt_cmpR op_ge (pv 1) (pe_callB call_len (by rfl) T.m_len (by decide +kernel) (pa_cons (pv 0) pa_nil)) (nomark _)) (pss_one (ps_ret pe_non)) pss_nil)
      (pss_cons (ps_set (i := 3) sc_l_part_in.nd rfl (.inl rfl) (pe_ix ix_seq (pv 0) (pv 1) (fun _ _ => rfl)))
      (pss_cons (ps_if (PW.pt (pw_and (pt_cmpR op_eq (pv 3) pe_int (nomark _)) (pw_and1 (pt_cmpR op_gt (pv 2) pe_int (nomark _))))) (pss_cons (ps_par (i := 4) (j := 1) (by rfl) sc_l_part_in.nd rfl rfl (by decide) rfl rfl (pa_cons (pe_lst pa_nil) (pa_cons (pe_op op_add (pv 1) pe_int) pa_nil)) (by rfl))
        (pss_cons (ps_while PassesOwn.never (PW.pt (pw_and (pt_cmpR op_lt (pv 1) (pe_callB call_len (by rfl) T.m_len (by decide +kernel) (pa_cons (pv 0) pa_nil)) (nomark _)) (pw_and1 (pt_cmpR op_ne (pe_ix ix_seq (pv 0) (pv 1) (fun _ _ => rfl)) pe_int (nomark _))))) (pss_cons (ps_set (i := 5) sc_l_part_in.nd rfl (.inl rfl) (pe_call G0 hr (by rfl) g0 F.kp b0 .nil pass0 (pa_cons (pv 0) (pa_cons (pv 1) (pa_cons (pe_op op_sub (pv 2) pe_int) pa_nil)))))
          (pss_cons (ps_if (pt_cmpR op_isN (pv 5) pe_non (nomark _)) (pss_one (ps_ret pe_non)) pss_nil)
          (pss_cons (ps_expr (pe_bm PySem.F.plainAttrs_list PySem.F.slot_list_append PySem.F.type_list_append mt_append (pv 4) (pa_cons (pe_ix ix_seq (pv 5) pe_int (fun _ _ => rfl)) pa_nil)))
          (pss_one (ps_set (i := 1) sc_l_part_in.nd rfl (.inl rfl) (pe_ix ix_seq (pv 5) pe_int (fun _ _ => rfl))))))))
        (pss_one (ps_ret (pe_ifExp (pt_cmpR op_lt (pv 1) (pe_callB call_len (by rfl) T.m_len (by decide +kernel) (pa_cons (pv 0) pa_nil)) (nomark _)) (pe_tup (pa_cons (pe_callTy call_tuple_of (by rfl) T.m_tuple (by decide +kernel) (pa_cons (pv 4) pa_nil)) (pa_cons (pe_op op_add (pv 1) pe_int) pa_nil))) pe_non))))) pss_nil)
      (pss_cons (ps_if (pt_chain op_le op_le pe_int (pv 3) pe_int) (pss_one (ps_ret (pe_tup (pa_cons (pe_ix ix_seq (pe_lst (pa_cons pe_non (pa_cons pe_bl (pa_cons pe_bl (pa_cons pe_str pa_nil))))) (pe_op op_sub (pv 3) pe_int) (fun _ _ => rfl)) (pa_cons (pe_op op_add (pv 1) pe_int) pa_nil))))) pss_nil)
      (pss_cons (ps_set (i := 6) sc_l_part_in.nd rfl (.inl rfl) (pe_ifExp (pt_cmpR op_eq (pv 3) pe_int (nomark _)) (pe_op op_add (pv 1) pe_int) (pv 1)))
      (pss_cons (ps_while PassesOwn.never (PW.pt (pw_and (pt_cmpR op_lt (pv 6) (pe_callB call_len (by rfl) T.m_len (by decide +kernel) (pa_cons (pv 0) pa_nil)) (nomark _)) (pw_and1 (pt_ifE (pt_cmpR op_eq (pv 3) pe_int (nomark _)) (pt_cmpR op_ge (pe_ix ix_seq (pv 0) (pv 6) (fun _ _ => rfl)) pe_int (nomark _)) (pt_cmpR op_le (pe_ix ix_seq (pv 0) (pv 6) (fun _ _ => rfl)) pe_int (nomark _)))))) (pss_one (ps_set (i := 6) sc_l_part_in.nd rfl (.inl rfl) (pe_op op_add (pv 6) pe_int))))
      (pss_cons (ps_set (i := 5) sc_l_part_in.nd rfl (.inl rfl) (pe_ifExp (pt_cmpR op_eq (pv 3) pe_int (nomark _)) (pe_slice sl_list (pv 0) (po_some (pe_op op_add (pv 1) pe_int)) (po_some (pe_op op_add (pv 6) pe_int))) (pe_slice sl_list (pv 0) (po_some (pv 1)) (po_some (pe_op op_add (pv 6) pe_int)))))
      (pss_cons (ps_if (pt_cmpR op_ge (pv 6) (pe_callB call_len (by rfl) T.m_len (by decide +kernel) (pa_cons (pv 0) pa_nil)) (nomark _)) (pss_one (ps_ret pe_non)) pss_nil)
      (pss_cons (ps_if (pt_cmpR op_eq (pv 3) pe_int (nomark _)) (pss_cons (ps_if (PW.pt (pw_or (pt_cmpR op_gt (pe_callB call_len (by rfl) T.m_len (by decide +kernel) (pa_cons (pv 5) pa_nil)) pe_int (nomark _)) (pw_or1 (PW.pt (pw_and (pt_cmpR op_gt (pe_callB call_len (by rfl) T.m_len (by decide +kernel) (pa_cons (pv 5) pa_nil)) pe_int (nomark _)) (pw_and1 (pt_cmpR op_eq (pe_ix ix_seq (pv 5) pe_int (fun _ _ => rfl)) pe_int (nomark _)))))))) (pss_one (ps_ret pe_non)) pss_nil)
        (pss_cons (ps_set (i := 7) sc_l_part_in.nd rfl (.inl rfl) pe_int)
        (pss_cons (ps_for PassesOwn.never rfl (pi_list (pv 5)) (pg_name (i := 8) sc_l_part_in.nd rfl (.inl rfl)) (pss_one (ps_set (i := 7) sc_l_part_in.nd rfl (.inl rfl) (pe_op op_add (pe_op op_mul (pv 7) pe_int) (pe_op op_mod (pe_callTy call_int1 (by rfl) T.m_int (by decide +kernel) (pa_cons (pv 8) pa_nil)) pe_int)))))
        (pss_one (ps_ret (pe_tup (pa_cons (pv 7) (pa_cons (pe_op op_add (pv 6) pe_int) pa_nil)))))))) pss_nil)
      (pss_cons (ps_if (PW.pt (pw_or (pt_cmpR op_gt (pe_callB call_len (by rfl) T.m_len (by decide +kernel) (pa_cons (pv 5) pa_nil)) pe_int (nomark _)) (pw_or (pt_cmpR (op_neD hr.units) (pe_lc (own := [("one", 9)]) (g := gName 9) (te := tVar 9) (by rfl) sc_l_part_in.nd (pi_list (pe_slice sl_list (pv 5) po_none (po_some (pe_un un_neg pe_int)))) (blkOk_by (own := [("one", 9)]) (N := NP) (sc := defScope s_l_part_in) (by decide +kernel)) (fun _ _ _ _ _ => pg_name (i := 9) sc_l_part_in.nd rfl (.inl rfl)) (fun _ _ _ _ _ => pts_one (pt_not (pt_chain op_le op_le pe_int (pv 9) pe_int))) (fun _ _ _ _ _ => by exact pv 9)) (pe_lst pa_nil) (nomark _)) (pw_or1 (pt_not (pt_chain op_le op_le pe_int (pe_ix ix_seq (pv 5) (pe_un un_neg pe_int) (fun _ _ => rfl)) pe_int)))))) (pss_one (ps_ret pe_non)) pss_nil)
      (pss_one (ps_ret (pe_tup (pa_cons (pe_join pe_str (pe_lc (own := [("one", 9)]) (g := gName 9) (by rfl) sc_l_part_in.nd (pi_list (pv 5)) (blkOk_by (own := [("one", 9)]) (N := NP) (sc := defScope s_l_part_in) (by decide +kernel)) (fun _ _ _ _ _ => pg_name (i := 9) sc_l_part_in.nd rfl (.inl rfl)) (fun _ _ _ _ _ => pts_nil) (fun _ _ _ _ _ => pe_ix ix_str pe_str (pe_op op_mod (pe_callTy call_int1 (by rfl) T.m_int (by decide +kernel) (pa_cons (pv 9) pa_nil)) pe_int) (fun _ _ => rfl)))) (pa_cons (pe_op op_add (pv 6) pe_int) pa_nil))))))))))))))), ?_⟩
    have lenV : (ns.map V.int).length = ns.length := List.length_map _
    refine ⟨.int i, rfl, .ref a, rfl, .ref a, ns.length, rfl, lenL hS lenV, _, _, rfl, rfl, _, rfl, ite2 (fun ge => ?_) (fun lt => ?_)⟩
    · have ge : ns.length ≤ i := by
        have := of_decide_eq_true ge
        omega
      refine q H .non .refl ?_
      rw [List.drop_of_length_le ge]
      cases n <;> rfl
    have lt : i < ns.length := by
      by_cases hh : i < ns.length
      · exact hh
      · exact absurd (decide_eq_true (by omega)) lt
    obtain ⟨c, hc⟩ : ∃ c, ns[i]? = some c := ⟨_, List.getElem?_eq_getElem lt⟩
    have hd := drop_cons hc
    have hcb := hC c (List.mem_of_getElem? hc)
    have getV : ∀ {j : Nat} {y : Int}, ns[j]? = some y → (ns.map V.int)[j]? = some (.int y) := fun h => by rw [List.getElem?_map, h]; rfl
    refine ⟨.ref a, rfl, .int i, rfl, ixE (.inl (sqL hS)) (getV hc) ?_⟩
    dsimp only
    refine with_rest (t := tIfS _ _ _) fun Rn hRn => ?_
    have rest : (c ≠ 27 ∨ n = 0) → Rn [some (.ref a), some (.int i), some (.int (n : Nat)), some (.int c), none, none, none, none, none, none] H := by
      intro hcn
      rw [hRn]
      clear hRn
      rw [hd, part_leaf hcn, leaf_cons] at q
      have getV : ∀ {j : Nat} {y : Int}, ns[j]? = some y → (ns.map V.int)[j]? = some (.int y) := fun h => by rw [List.getElem?_map, h]; rfl
      refine with_rest (t := tIfS _ _ _) fun Rn hRn => ?_
      have rest : ¬ (29 ≤ c ∧ c ≤ 32) → Rn [some (.ref a), some (.int i), some (.int (n : Nat)), some (.int c), none, none, none, none, none, none] H := by
        intro hcn
        rw [hRn]
        clear hRn
        rw [if_neg hcn] at q
        have q : ∀ H' x, Kp [] H H' → PartRes ns H' x (if c = 59 then numPart (ns.drop (i + 1)) else wordPart (ns.drop i)) → Q x H' := fun H' x k r => q H' x k (by rw [← hd]; exact r)
        refine with_rest (t := tAsg _ _) fun Rn hRn => ?_
        have rest : ∀ st : Nat, (c = 59 → st = i + 1) → (c ≠ 59 → st = i) → Rn [some (.ref a), some (.int i), some (.int (n : Nat)), some (.int c), none, none, some (.int st), none, none, none] H := by
          intro st hs1 hs2
          rw [hRn]
          clear hRn
          obtain ⟨p, hp⟩ : ∃ p : Int → Bool, p = fun x => if c = 59 then isHi x else isLo x := ⟨_, rfl⟩
          have hst : st ≤ ns.length := by
            by_cases h : c = 59
            · rw [hs1 h]; omega
            · rw [hs2 h]; omega
          refine with_rest (t := tWhile _ _) fun Rn hRn => ?_
          have rest : ∀ e : Nat, st ≤ e → e ≤ ns.length → (∀ y ∈ (ns.drop st).take (e - st), p y = true) → (∀ x, ns[e]? = some x → p x = false) → Rn [some (.ref a), some (.int i), some (.int (n : Nat)), some (.int c), none, none, some (.int e), none, none, none] H := by
            intro e he1 he2 he3 he4
            rw [hRn]
            clear hRn
            try dsimp only [gName]
            refine with_rest (t := tAsg _ _) fun Rn hRn => ?_
            have rest : ∀ H1 l, Kp [] H H1 → H1 l = some (.lst (((ns.drop st).take (e + 1 - st)).map V.int)) → Rn [some (.ref a), some (.int i), some (.int (n : Nat)), some (.int c), none, some (.ref l), some (.int e), none, none, none] H1 := by
              intro H1 l k1 el
              rw [hRn]
              clear hRn
              have hS1 := k1 a _ hS (.inr List.not_mem_nil)
              refine ⟨.int e, rfl, .ref a, rfl, .ref a, ns.length, rfl, lenL hS1 lenV, _, _, rfl, rfl, _, rfl, ite2 (fun ge => ?_) (fun lte => ?_)⟩
              · have ge : ns.length ≤ e := by
                  have := of_decide_eq_true ge
                  omega
                have hall : (ns.drop st).dropWhile p = [] := scan_all fun y m => he3 y (by
                  rw [List.take_of_length_le (by rw [List.length_drop]; omega)]
                  exact m)
                refine q H1 .non k1 ?_
                by_cases h59 : c = 59
                · rw [if_pos h59]
                  have : p = isHi := by
                    rw [hp]
                    funext x
                    rw [if_pos h59]
                  rw [this, hs1 h59] at hall
                  unfold numPart
                  rw [hall]
                  rfl
                · rw [if_neg h59]
                  have : p = isLo := by
                    rw [hp]
                    funext x
                    rw [if_neg h59]
                  rw [this, hs2 h59] at hall
                  unfold wordPart
                  rw [hall]
                  rfl
              have lte : e < ns.length := by
                by_cases hh : e < ns.length
                · exact hh
                · exact absurd (decide_eq_true (by omega)) lte
              obtain ⟨x, hx⟩ : ∃ c, ns[e]? = some c := ⟨_, List.getElem?_eq_getElem lte⟩
              obtain ⟨sc1, sc2, sc3⟩ := scan_end he1 hx he3 (he4 x hx)
              rw [sc3] at el
              obtain ⟨w0, hw0⟩ : ∃ w0, w0 = (ns.drop st).take (e - st) := ⟨_, rfl⟩
              have hwl : w0.length ≤ 900 := by
                rw [hw0, List.length_take, List.length_drop]
                omega
              have hwC : C63 (w0 ++ [x]) := by
                rw [hw0, ← sc3]
                exact fun y m => hC y (List.mem_of_mem_drop (List.mem_of_mem_take m))
              rw [← hw0] at sc1 sc3 el he3
              have tl : (w0 ++ [x]).length = w0.length + 1 := by rw [List.length_append]; rfl
              have tlV : ((w0 ++ [x]).map V.int).length = w0.length + 1 := by rw [List.length_map, tl]
              have lenT : ∀ {H'}, Kp [] H1 H' → LenV K (.ref l) H' (w0.length + 1) := fun k => lenL (k l _ el (.inr List.not_mem_nil)) tlV
              have hend : ((ns.length - (ns.drop (e + 1)).length : Nat) : Int) = (e : Int) + 1 := by
                rw [List.length_drop]
                omega
              by_cases h59 : c = 59
              · rw [if_pos h59] at q
                have hpe : p = isHi := by
                  rw [hp]
                  funext x
                  rw [if_pos h59]
                rw [hpe, hs1 h59] at sc1 sc2
                have hnum : numPart (ns.drop (i + 1)) = if 3 < w0.length + 1 ∨ (1 < w0.length + 1 ∧ (w0 ++ [x]).head? = some 32) then none else some (.int (numOf ((w0 ++ [x]).map (· % 32))), ns.drop (e + 1)) := by
                  unfold numPart
                  rw [sc2, sc1]
                refine ⟨.int c, rfl, rfl, _, rfl, ite2 (fun _ => ?_) (fun z => absurd (by rw [h59]; exact decide_eq_true rfl) z)⟩
                obtain ⟨y0, hy0⟩ : ∃ y, (w0 ++ [x])[0]? = some y := ⟨_, List.getElem?_eq_getElem (by omega)⟩
                have hh0 : (w0 ++ [x]).head? = some y0 := by rw [List.head?_eq_getElem?]; exact hy0
                rw [hh0] at hnum
                refine with_rest (t := tIfS _ _ _) fun Rn hRn => ?_
                have rest : ¬ (3 < w0.length + 1 ∨ (1 < w0.length + 1 ∧ some y0 = some 32)) → Rn [some (.ref a), some (.int i), some (.int (n : Nat)), some (.int c), none, some (.ref l), some (.int e), none, none, none] H1 := by
                  intro hno
                  rw [hRn]
                  clear hRn
                  rw [hnum, if_neg hno] at q
                  have h3 : ((w0 ++ [x]).map (· % 32)).length ≤ 3 := by
                    rw [List.length_map, tl]
                    exact Nat.le_of_not_lt fun z => hno (.inl z)
                  have h31 : ∀ d ∈ (w0 ++ [x]).map (· % 32), 0 ≤ d ∧ d ≤ 31 := fun d m => by
                    obtain ⟨y, my, rfl⟩ := List.mem_map.mp m
                    have := hwC y my
                    omega
                  try dsimp only [gName]
                  refine ⟨.ref l, rfl, l, rfl, ⟨_, sqL el⟩, ?_⟩
                  refine for_list (xs := (w0 ++ [x]).map V.int) (fun t σ H' => H' = H1 ∧ ∃ y8, σ = [some (.ref a), some (.int i), some (.int (n : Nat)), some (.int c), none, some (.ref l), some (.int e), some (.int (numOf (((w0 ++ [x]).map (· % 32)).take t))), y8, none]) ⟨rfl, _, rfl⟩ (fun t σ H' _ ⟨e, _⟩ => by rw [e]; exact sqL el) ?_ ?_
                  · rintro t v σ H' ex ⟨rfl, y8, rfl⟩
                    obtain ⟨d, hd, rfl⟩ : ∃ d, (w0 ++ [x])[t]? = some d ∧ V.int d = v := by
                      rw [List.getElem?_map] at ex
                      cases q : (w0 ++ [x])[t]? with
                      | none => rw [q] at ex; cases ex
                      | some d => rw [q] at ex; cases ex; exact ⟨d, rfl, rfl⟩
                    have hd2 : ((w0 ++ [x]).map (· % 32))[t]? = some (d % 32) := by rw [List.getElem?_map, hd]; rfl
                    have hti := (List.getElem?_eq_some_iff.mp hd2).1
                    have hb2 := num_le2 h3 h31 (i := t) (by omega)
                    refine ⟨.int _, rfl, _, 32, rfl, rfl, .inr ⟨by decide, by decide⟩, .int d, rfl, .inl ⟨d, rfl, d, 32, rfl, rfl, (show (0 : Int) < 32 by decide), _, d % 32, rfl, rfl, ?_⟩⟩
                    refine ⟨rfl, some (.int d), ?_⟩
                    rw [num_snoc _ t hd2]
                    rfl
                  · rintro σ H' ⟨rfl, y8, rfl⟩
                    rw [List.length_map, show (w0 ++ [x]).length = ((w0 ++ [x]).map (· % 32)).length from (List.length_map _).symm, List.take_length]
                    refine ⟨.int _, rfl, .int e, rfl, e, 1, rfl, rfl, small (by show 2 ≤ 1000; omega), fun t nt => q _ _ (k1.trans (Kp.new nt)) ⟨t, _, rfl, ?_, fun S => .int _⟩⟩
                    rw [upd_same, hend]
                have ret : (3 < w0.length + 1 ∨ (1 < w0.length + 1 ∧ some y0 = some 32)) → Q .non H1 := fun hyes => q H1 .non k1 (by rw [hnum, if_pos hyes]; rfl)
                refine ⟨.ref l, rfl, .ref l, _, rfl, lenT .refl, _, 3, rfl, rfl, _, rfl, ite2 (fun g => ite2 (fun _ => ret (.inl ?_)) (fun z => absurd rfl z)) (fun g => ?_)⟩
                · have := of_decide_eq_true g
                  omega
                have g3 : ¬ 3 < w0.length + 1 := fun z => g (decide_eq_true (by omega))
                refine ⟨.ref l, rfl, .ref l, _, rfl, lenT .refl, _, 1, rfl, rfl, _, rfl, ite2 (fun g => ?_) (fun g => ite2 (fun z => by cases z) fun _ => rest ?_)⟩
                · have g1 : 1 < w0.length + 1 := by
                    have := of_decide_eq_true g
                    omega
                  refine ⟨.ref l, rfl, ixE (n := 0) (.inl (sqL el)) (by rw [List.getElem?_map, hy0]; rfl) ⟨rfl, _, rfl, ite2 (fun g => ret (.inr ⟨g1, ?_⟩)) (fun g => rest ?_)⟩⟩
                  · have := of_decide_eq_true g
                    injection this with this
                    rw [this]
                  · rintro (z | ⟨_, z⟩)
                    · exact g3 z
                    · injection z with z
                      exact g (by rw [z]; exact decide_eq_true rfl)
                · rintro (z | ⟨z, _⟩)
                  · exact g3 z
                  · exact g (decide_eq_true (by omega))
              · rw [if_neg h59] at q
                have hpe : p = isLo := by
                  rw [hp]
                  funext x
                  rw [if_neg h59]
                rw [hpe, hs2 h59] at sc1 sc2
                have hword : wordPart (ns.drop i) = if 8 < w0.length + 1 ∨ ¬ (w0.all is26 = true) ∨ ¬ isLast x = true then none else some (.str (wStr ((w0 ++ [x]).map fun c => let1 (c % 32))), ns.drop (e + 1)) := by
                  unfold wordPart
                  rw [sc2, sc1]
                refine ⟨.int c, rfl, rfl, _, rfl, ite2 (fun z => absurd (by have := of_decide_eq_true z; injection this) h59) (fun _ => ?_)⟩
                unfold tNext
                dsimp only
                refine with_rest (t := tIfS _ _ _) fun Rn hRn => ?_
                have rest : ∀ H2, Kp [] H1 H2 → ¬ (8 < w0.length + 1 ∨ ¬ (w0.all is26 = true) ∨ ¬ isLast x = true) → Rn [some (.ref a), some (.int i), some (.int (n : Nat)), some (.int c), none, some (.ref l), some (.int e), none, none, none] H2 := by
                  intro H2 k2 hno
                  rw [hRn]
                  clear hRn
                  rw [hword, if_neg hno] at q
                  have el2 := k2 l _ el (.inr List.not_mem_nil)
                  have h8 : w0.length + 1 ≤ 8 := Nat.le_of_not_lt fun z => hno (.inl z)
                  have h26 : w0.all is26 = true := Decidable.byContradiction fun z => hno (.inr (.inl z))
                  have hla : isLast x = true := Decidable.byContradiction fun z => hno (.inr (.inr z))
                  have hm : ∀ y ∈ w0 ++ [x], 1 ≤ y % 32 ∧ y % 32 ≤ 26 := fun y m => by
                    rcases List.mem_append.mp m with m | m
                    · have := is26_iff.mp (List.all_eq_true.mp h26 y m)
                      omega
                    · rw [List.mem_singleton.mp m]
                      have := isLast_iff.mp hla
                      omega
                  refine ⟨⟨_, rfl⟩, .ref l, rfl, l, rfl, ⟨_, sqL el2⟩, fun D nD => ?_⟩
                  refine lc_by (J := Itl K l) (vs := [9]) (D := D) (H0 := upd H2 D (.lst [])) (n := w0.length + 1) (fun t H4 => H4 = upd H2 D (.lst ((((w0 ++ [x]).take t).map fun c => oneS (let1 (c % 32))).map V.str))) rfl ?_ ?_
                  · rintro t H4 ht rfl
                    have elt : (upd H2 D (.lst ((((w0 ++ [x]).take t).map fun c => oneS (let1 (c % 32))).map V.str))) l = some (.lst ((w0 ++ [x]).map V.int)) := by rw [upd_ne (ne_of_none el2 nD)]; exact el2
                    obtain ⟨y, hy⟩ : ∃ y, (w0 ++ [x])[t]? = some y := ⟨_, List.getElem?_eq_getElem (by omega)⟩
                    have hyv : ((w0 ++ [x]).map V.int)[t]? = some (.int y) := by rw [List.getElem?_map, hy]; rfl
                    refine ⟨⟨_, .int y, sqL elt, hyv⟩, ?_⟩
                    rintro v H5 ⟨rfl, fv⟩
                    obtain rfl : v = .int y := Option.some.inj ((fv _ (sqL elt)).symm.trans hyv)
                    have hy26 := hm y (List.mem_of_getElem? hy)
                    refine ⟨rfl, .int y, rfl, .inl ⟨y, rfl, y, 32, rfl, rfl, (show (0 : Int) < 32 by decide), ?_⟩⟩
                    refine ⟨_, _, _, rfl, rfl, small (by decide), sletters_ix hy26.1 hy26.2, _, upd_same, ?_, ?_⟩
                    · rw [List.length_map, List.length_map, List.length_take, sizeLine_eq]
                      omega
                    · rw [upd_upd, List.take_add_one, hy, List.map_append, List.map_append]
                      rfl
                  · rintro H4 rfl
                    have elt : (upd H2 D (.lst ((((w0 ++ [x]).take (w0.length + 1)).map fun c => oneS (let1 (c % 32))).map V.str))) l = some (.lst ((w0 ++ [x]).map V.int)) := by rw [upd_ne (ne_of_none el2 nD)]; exact el2
                    refine ⟨⟨_, sqL elt, by rw [tlV]; exact Nat.le_refl _⟩, ?_⟩
                    rw [show w0.length + 1 = (w0 ++ [x]).length from tl.symm, List.take_length]
                    have em : ((w0 ++ [x]).map fun c => oneS (let1 (c % 32))) = ((w0 ++ [x]).map fun c => let1 (c % 32)).map oneS := by rw [List.map_map]; rfl
                    rw [em]
                    obtain ⟨cs, hcs⟩ : ∃ cs, cs = (w0 ++ [x]).map fun c => let1 (c % 32) := ⟨_, rfl⟩
                    have hcl : cs.length ≤ 8 := by rw [hcs, List.length_map, tl]; omega
                    rw [← hcs] at q ⊢
                    refine ⟨"", D, cs.map oneS, rfl, rfl, .inl (sqL upd_same), ?_, ?_⟩
                    · have : ((cs.map oneS).map (·.length)).sum ≤ cs.length := by
                        clear hcl hcs q
                        induction cs with
                        | nil => exact Nat.le_refl _
                        | cons a l ih =>
                          show 1 + ((l.map oneS).map (·.length)).sum ≤ l.length + 1
                          omega
                      rw [List.length_map]
                      show _ + cs.length * 0 ≤ _
                      omega
                    · rw [join_ones]
                      refine ⟨.int e, rfl, e, 1, rfl, rfl, small (by show 2 ≤ 1000; omega), fun t nt => q _ _ ((k1.trans k2).trans ((Kp.new nD).trans (Kp.new nt))) ⟨t, _, rfl, ?_, fun S => .str _⟩⟩
                      rw [upd_same, hend]
                have ret : ∀ H2, Kp [] H1 H2 → (8 < w0.length + 1 ∨ ¬ (w0.all is26 = true) ∨ ¬ isLast x = true) → Q .non H2 := fun H2 k2 hyes => q H2 .non (k1.trans k2) (by rw [hword, if_pos hyes]; rfl)
                refine ⟨.ref l, rfl, .ref l, _, rfl, lenT .refl, _, 8, rfl, rfl, _, rfl, ite2 (fun g => ite2 (fun _ => ret H1 .refl (.inl ?_)) (fun z => absurd rfl z)) (fun g => ?_)⟩
                · have := of_decide_eq_true g
                  omega
                have g8 : ¬ 8 < w0.length + 1 := fun z => g (decide_eq_true (by omega))
                refine ⟨.ref l, rfl, 1, rfl, _, rfl, l, _, rfl, sqL el, fun ps nps => ?_⟩
                rw [List.map_append, show [x].map V.int = [V.int x] from rfl, cut_last]
                have ks : Kp [] H1 (upd H1 ps (.lst (w0.map V.int))) := Kp.new nps
                have eps : (upd H1 ps (.lst (w0.map V.int))) ps = some (.lst (w0.map V.int)) := upd_same
                generalize upd H1 ps (.lst (w0.map V.int)) = H2 at ks eps
                refine ⟨ps, rfl, ⟨_, sqL eps⟩, fun D nD => ?_⟩
                refine lc_by (J := Itl K ps) (vs := [9]) (D := D) (H0 := upd H2 D (.lst [])) (n := w0.length) (fun t H4 => ∃ acc : List Int, H4 = upd H2 D (.lst (acc.map V.int)) ∧ acc.length ≤ t ∧ acc.isEmpty = (w0.take t).all is26) ⟨[], rfl, Nat.le_refl _, rfl⟩ ?_ ?_
                · rintro t H4 ht ⟨acc, rfl, hal, hE⟩
                  have elt : (upd H2 D (.lst (acc.map V.int))) ps = some (.lst (w0.map V.int)) := by rw [upd_ne (ne_of_none eps nD)]; exact eps
                  obtain ⟨y, hy⟩ : ∃ y, w0[t]? = some y := ⟨_, List.getElem?_eq_getElem ht⟩
                  have hyv : (w0.map V.int)[t]? = some (.int y) := by rw [List.getElem?_map, hy]; rfl
                  refine ⟨⟨_, .int y, sqL elt, hyv⟩, ?_⟩
                  rintro v H5 ⟨rfl, fv⟩
                  obtain rfl : v = .int y := Option.some.inj ((fv _ (sqL elt)).symm.trans hyv)
                  have hta : (w0.take (t + 1)).all is26 = ((w0.take t).all is26 && is26 y) := by
                    rw [List.take_add_one, hy, List.all_append]
                    simp
                  have yes : is26 y = true → ∃ acc' : List Int, upd H2 D (.lst (acc.map V.int)) = upd H2 D (.lst (acc'.map V.int)) ∧ acc'.length ≤ t + 1 ∧ acc'.isEmpty = (w0.take (t + 1)).all is26 := fun h => ⟨acc, rfl, by omega, by rw [hta, h, Bool.and_true]; exact hE⟩
                  have no : is26 y = false → tVar 9 [some (.ref a), some (.int i), some (.int (n : Nat)), some (.int c), none, some (.ref l), some (.int e), none, none, some (.int y)] (upd H2 D (.lst (acc.map V.int))) fun z H4 => ∃ acc0, H4 D = some (.lst acc0) ∧ acc0.length < sizeLine ∧ ∃ acc' : List Int, upd H4 D (.lst (acc0 ++ [z])) = upd H2 D (.lst (acc'.map V.int)) ∧ acc'.length ≤ t + 1 ∧ acc'.isEmpty = (w0.take (t + 1)).all is26 := fun h => by
                    refine ⟨.int y, rfl, _, upd_same, ?_, acc ++ [y], ?_, ?_, ?_⟩
                    · rw [List.length_map, sizeLine_eq]
                      omega
                    · rw [upd_upd, List.map_append]
                      rfl
                    · rw [List.length_append]
                      show acc.length + 1 ≤ t + 1
                      omega
                    · rw [hta, h, Bool.and_false]
                      cases acc <;> rfl
                  refine ⟨rfl, .int y, rfl, 1, y, rfl, rfl, _, rfl, ite2 (fun h1 => ⟨y, 26, rfl, rfl, _, rfl, ?_⟩) (fun h1 => ⟨_, rfl, ite2 (fun _ => no ?_) (fun z => absurd rfl z)⟩)⟩
                  · have h1 : 1 ≤ y := of_decide_eq_true h1
                    cases h2 : decide (y ≤ 26) with
                    | true =>
                      refine ite2 (fun z => by cases z) (fun _ => yes (is26_iff.mpr ⟨h1, of_decide_eq_true h2⟩))
                    | false =>
                      refine ite2 (fun _ => no ?_) (fun z => absurd rfl z)
                      unfold is26
                      rw [h2, Bool.and_false]
                  · unfold is26
                    rw [decide_eq_false (fun z => h1 (decide_eq_true z))]
                    rfl
                · rintro H4 ⟨acc, rfl, hal, hE⟩
                  have elt : (upd H2 D (.lst (acc.map V.int))) ps = some (.lst (w0.map V.int)) := by rw [upd_ne (ne_of_none eps nD)]; exact eps
                  refine ⟨⟨_, sqL elt, by rw [List.length_map]; exact Nat.le_refl _⟩, ?_⟩
                  rw [List.take_length] at hE
                  refine ⟨small (by show 0 ≤ 1000; omega), fun p2 np2 => ?_⟩
                  have kp2 : Kp [] (upd H2 D (.lst (acc.map V.int))) (upd (upd H2 D (.lst (acc.map V.int))) p2 (.lst [])) := Kp.new np2
                  have eD := kp2 D _ upd_same (.inr List.not_mem_nil)
                  have kk : Kp [] H1 (upd (upd H2 D (.lst (acc.map V.int))) p2 (.lst [])) := ks.trans ((Kp.new nD).trans kp2)
                  refine ⟨_, _, .lst (sqL eD) (DpAll.ints acc), .lst (sqL upd_same) .nil, shaped_il acc, by decide, _, rfl, ?_⟩
                  rw [eqv_nilL]
                  have hie : (acc.map PyData.int).isEmpty = acc.isEmpty := by cases acc <;> rfl
                  rw [hie, hE]
                  cases h26 : w0.all is26 with
                  | false =>
                    refine ite2 (fun _ => ite2 (fun _ => ret _ kk (.inr (.inl (by rw [h26]; simp)))) (fun z => absurd rfl z)) (fun z => absurd rfl z)
                  | true =>
                    refine ite2 (fun z => by cases z) (fun _ => ?_)
                    have elk := kk l _ el (.inr List.not_mem_nil)
                    rw [List.map_append] at elk
                    have yes : isLast x = true → ¬ (8 < w0.length + 1 ∨ ¬ (w0.all is26 = true) ∨ ¬ isLast x = true) := fun h z => by
                      rcases z with z | z | z
                      · exact g8 z
                      · exact z h26
                      · exact z h
                    have no : isLast x = false → Q .non (upd (upd H2 D (.lst (acc.map V.int))) p2 (.lst [])) := fun h => ret _ kk (.inr (.inr (by rw [h]; simp)))
                    refine ⟨.ref l, rfl, 1, rfl, .inl ⟨l, _, -1, _, rfl, rfl, sqL elk, at_last _ _, 33, x, rfl, rfl, _, rfl, ite2 (fun h1 => ⟨x, 58, rfl, rfl, _, rfl, ?_⟩) (fun h1 => ⟨_, rfl, ite2 (fun _ => no ?_) (fun z => absurd rfl z)⟩)⟩⟩
                    · have h1 : 33 ≤ x := of_decide_eq_true h1
                      cases h2 : decide (x ≤ 58) with
                      | true => exact ite2 (fun z => by cases z) (fun _ => rest _ kk (yes (isLast_iff.mpr ⟨h1, of_decide_eq_true h2⟩)))
                      | false =>
                        refine ite2 (fun _ => no ?_) (fun z => absurd rfl z)
                        unfold isLast
                        rw [h2, Bool.and_false]
                    · unfold isLast
                      rw [decide_eq_false (fun z => h1 (decide_eq_true z))]
                      rfl
            -- told
            have cutT : ∀ s0 : Nat, s0 = st → cutV (ns.map V.int) (some (s0 : Int)) (some ((e : Int) + 1)) = ((ns.drop st).take (e + 1 - st)).map V.int := by
              rintro s0 rfl
              rw [show (e : Int) + 1 = ((e + 1 : Nat) : Int) by omega, cut_mid, ← List.map_drop, ← List.map_take]
            refine ⟨.int c, rfl, rfl, _, rfl, ite2 (fun h59 => ?_) (fun h59 => ?_)⟩
            · have h59 : c = 59 := by
                have := of_decide_eq_true h59
                injection this
              refine ⟨.ref a, rfl, .int i, rfl, i, 1, rfl, rfl, _, rfl, .int e, rfl, e, 1, rfl, rfl, _, rfl, a, _, rfl, sqL hS, fun ps nps => ?_⟩
              have ce := cutT (i + 1) (hs1 h59).symm
              rw [show (((i + 1 : Nat)) : Int) = (i : Int) + 1 by omega] at ce
              exact rest _ ps (Kp.new nps) (by rw [upd_same, ce])
            · have h59 : c ≠ 59 := fun z => h59 (by rw [z]; exact decide_eq_true rfl)
              refine ⟨.ref a, rfl, .int i, rfl, _, rfl, .int e, rfl, e, 1, rfl, rfl, _, rfl, a, _, rfl, sqL hS, fun ps nps => ?_⟩
              exact rest _ ps (Kp.new nps) (by rw [upd_same, cutT i (hs2 h59).symm])
          -- the scan
          refine ⟨fun m' σ H' => ∃ e : Nat, m' = ns.length - e ∧ σ = [some (.ref a), some (.int i), some (.int (n : Nat)), some (.int c), none, none, some (.int e), none, none, none] ∧ H' = H ∧ st ≤ e ∧ e ≤ ns.length ∧ ∀ y ∈ (ns.drop st).take (e - st), p y = true,
            ⟨_, st, rfl, rfl, rfl, Nat.le_refl _, hst, fun y m => by rw [Nat.sub_self] at m; cases m⟩, ?_⟩
          rintro m' σ H' ⟨e, rfl, rfl, rfl, he1, he2, he3⟩
          refine ⟨.int e, rfl, .ref a, rfl, .ref a, ns.length, rfl, lenL hS lenV, _, _, rfl, rfl, _, rfl, ite2 (fun lte => ?_) (fun ge => ?_)⟩
          · have lte : e < ns.length := by
              have := of_decide_eq_true lte
              omega
            obtain ⟨x, hx⟩ : ∃ c, ns[e]? = some c := ⟨_, List.getElem?_eq_getElem lte⟩
            have stop : p x = false → Rn [some (.ref a), some (.int i), some (.int (n : Nat)), some (.int c), none, none, some (.int e), none, none, none] H' := fun h => rest e he1 he2 he3 fun y hy => by
              rw [hx] at hy
              cases hy
              exact h
            have more : p x = true → ∀ y ∈ (ns.drop st).take (e + 1 - st), p y = true := fun h y m => by
              rw [show e + 1 - st = (e - st) + 1 by omega, List.take_add_one, List.getElem?_drop, show st + (e - st) = e by omega, hx] at m
              rcases List.mem_append.mp m with m | m
              · exact he3 y m
              · have : y = x := by simpa using m
                rw [this]
                exact h
            refine ⟨.int c, rfl, rfl, _, rfl, ite2 (fun h59 => ?_) (fun h59 => ?_)⟩
            · have h59 : c = 59 := by
                have := of_decide_eq_true h59
                injection this
              have hpx : p x = decide (32 ≤ x) := by
                rw [hp]
                dsimp only
                rw [if_pos h59]
                rfl
              refine ⟨.ref a, rfl, .int e, rfl, ixE (.inl (sqL hS)) (getV hx) ⟨x, 32, rfl, rfl, _, rfl, ite2 (fun g => ?_) (fun g => stop ?_)⟩⟩
              · refine ⟨_, fun σ' H' h => h, ?_⟩
                refine ⟨.int e, rfl, e, 1, rfl, rfl, ns.length - (e + 1), by omega, e + 1, rfl, rfl, rfl, by omega, by omega, more ?_⟩
                rw [hpx]
                exact g
              · rw [hpx]
                exact Bool.eq_false_iff.mpr g
            · have h59 : c ≠ 59 := fun z => h59 (by rw [z]; exact decide_eq_true rfl)
              have hpx : p x = decide (x ≤ 32) := by
                rw [hp]
                dsimp only
                rw [if_neg h59]
                rfl
              refine ⟨.ref a, rfl, .int e, rfl, ixE (.inl (sqL hS)) (getV hx) ⟨x, 32, rfl, rfl, _, rfl, ite2 (fun g => ?_) (fun g => stop ?_)⟩⟩
              · refine ⟨_, fun σ' H' h => h, ?_⟩
                refine ⟨.int e, rfl, e, 1, rfl, rfl, ns.length - (e + 1), by omega, e + 1, rfl, rfl, rfl, by omega, by omega, more ?_⟩
                rw [hpx]
                exact g
              · rw [hpx]
                exact Bool.eq_false_iff.mpr g
          · have ge : ns.length ≤ e := by
              by_cases hh : ns.length ≤ e
              · exact hh
              · exact absurd (decide_eq_true (by omega)) ge
            refine ite2 (fun z => by cases z) (fun _ => rest e he1 he2 he3 fun x hx => ?_)
            rw [List.getElem?_eq_none ge] at hx
            cases hx
        refine ⟨.int c, rfl, rfl, _, rfl, ite2 (fun h59 => ?_) (fun h59 => ?_)⟩
        · have h59 : c = 59 := by
            have := of_decide_eq_true h59
            injection this
          exact ⟨.int i, rfl, i, 1, rfl, rfl, rest (i + 1) (fun _ => rfl) (fun z => absurd h59 z)⟩
        · have h59 : c ≠ 59 := fun z => h59 (by rw [z]; exact decide_eq_true rfl)
          exact ⟨.int i, rfl, rest i (fun z => absurd z h59) (fun _ => rfl)⟩
      refine ⟨.int c, rfl, 29, c, rfl, rfl, _, rfl, ite2 (fun h1 => ⟨c, 32, rfl, rfl, _, rfl, ite2 (fun h2 => ?_) (fun h2 => rest fun z => h2 (decide_eq_true z.2))⟩) (fun h1 => ⟨_, rfl, ite2 (fun z => by cases z) (fun _ => rest fun z => h1 (decide_eq_true z.1))⟩)⟩
      have h1 : 29 ≤ c := of_decide_eq_true h1
      have h2 : c ≤ 32 := of_decide_eq_true h2
      rw [if_pos ⟨h1, h2⟩] at q
      refine ⟨small (by show 4 ≤ 1000; omega), fun p np => ⟨.int c, rfl, c, 29, rfl, rfl, ?_⟩⟩
      have kp : Kp [] H (upd H p (.lst [.non, .bl false, .bl true, .str ""])) := Kp.new np
      have fin : ∀ v : V, (∀ S H', Da S H' v (plainOf c)) → ∀ (u : V), (u = .int (i + 1)) → ∃ t0 : True, (([v, u] : List V).length ≤ sizeLine ∧ ∀ t, (upd H p (.lst [.non, .bl false, .bl true, .str ""])) t = none → Q (.ref t) (upd (upd H p (.lst [.non, .bl false, .bl true, .str ""])) t (.tup [v, u]))) := by
        intro v hv u hu
        subst hu
        refine ⟨trivial, small (by show 2 ≤ 1000; omega), fun t nt => q _ _ (kp.trans (Kp.new nt)) ⟨t, v, rfl, ?_, fun S => hv S _⟩⟩
        rw [upd_same, List.length_drop, show ((ns.length - (ns.length - (i + 1)) : Nat) : Int) = (i : Int) + 1 by omega]
      have hcc : c = 29 ∨ c = 30 ∨ c = 31 ∨ c = 32 := by omega
      rcases hcc with rfl | rfl | rfl | rfl
      · exact ixE (n := 0) (.inl (sqL upd_same)) rfl ⟨.int i, rfl, i, 1, rfl, rfl, (fin .non (fun _ _ => .non) _ rfl).2⟩
      · exact ixE (n := 1) (.inl (sqL upd_same)) rfl ⟨.int i, rfl, i, 1, rfl, rfl, (fin (.bl false) (fun _ _ => .bl _) _ rfl).2⟩
      · exact ixE (n := 2) (.inl (sqL upd_same)) rfl ⟨.int i, rfl, i, 1, rfl, rfl, (fin (.bl true) (fun _ _ => .bl _) _ rfl).2⟩
      · exact ixE (n := 3) (.inl (sqL upd_same)) rfl ⟨.int i, rfl, i, 1, rfl, rfl, (fin (.str "") (fun _ _ => .str _) _ rfl).2⟩
    refine ⟨.int c, rfl, rfl, _, rfl, ite2 (fun e27 => ?_) (fun e27 => rest (.inl fun z => e27 (by rw [z]; exact decide_eq_true rfl)))⟩
    have e27 : c = 27 := by
      have := of_decide_eq_true e27
      injection this
    subst e27
    refine ⟨.int n, rfl, n, 0, rfl, rfl, _, rfl, ite2 (fun hpos => ?_) (fun hneg => rest (.inr (by
      by_cases hh : n = 0
      · exact hh
      · exact absurd (decide_eq_true (by omega)) hneg)))⟩
    obtain ⟨m, rfl⟩ : ∃ m, n = m + 1 := ⟨n - 1, by have := of_decide_eq_true hpos; omega⟩
    obtain rfl := h0 m rfl
    clear rest hRn
    rw [hd, part_tup] at q
    refine ⟨small (by show 0 ≤ 1000; omega), fun l nl => ⟨.int i, rfl, i, 1, rfl, rfl, .ref l, .int (i + 1), rfl, ?_⟩⟩
    refine ⟨fun m' σ H' => ∃ (j : Nat) (vs : List V) (ds : List PyData) (g : Nat) (y5 : Option V), m' = ns.length - j ∧ σ = [some (.ref a), some (.int j), some (.int ((m + 1 : Nat) : Int)), some (.int 27), some (.ref l), y5, none, none, none, none] ∧ H' l = some (.lst vs) ∧ Kp [] H H' ∧ (∀ S', DaL S' H' vs ds) ∧ vs.length ≤ j ∧ j ≤ ns.length ∧ (ns.drop j).length < g ∧
      (match partsF (part m) ((ns.drop (i + 1)).length + 1) (ns.drop (i + 1)) with | none => none | some (ds, r) => some (PyData.tuple ds, r)) = (match partsF (part m) g (ns.drop j) with | none => none | some (es, r) => some (PyData.tuple (ds ++ es), r)),
      ⟨_, i + 1, [], [], (ns.drop (i + 1)).length + 1, none, rfl, rfl, upd_same, Kp.new nl, fun S' => .nil, Nat.zero_le _, lt, Nat.lt_succ_self _, rfl⟩, ?_⟩
    rintro m' σ H2 ⟨j, vs, ds, g, y5, rfl, rfl, el, k2, hD, hvl, hj, hg, hp⟩
    rw [hp] at q
    have hS2 := k2 a _ hS (.inr List.not_mem_nil)
    obtain ⟨g, rfl⟩ : ∃ g', g = g' + 1 := ⟨g - 1, by omega⟩
    refine ⟨.int j, rfl, .ref a, rfl, .ref a, ns.length, rfl, lenL hS2 lenV, _, _, rfl, rfl, _, rfl, ite2 (fun ltj => ?_) (fun gej => ?_)⟩
    · have ltj : j < ns.length := by
        have := of_decide_eq_true ltj
        omega
      obtain ⟨c2, hc2⟩ : ∃ c, ns[j]? = some c := ⟨_, List.getElem?_eq_getElem ltj⟩
      have hd2 := drop_cons hc2
      refine ⟨.ref a, rfl, .int j, rfl, ixE (.inl (sqL hS2)) (getV hc2) ⟨rfl, _, rfl, ite2 (fun ne => ?_) (fun eq => ?_)⟩⟩
      · have ne : c2 ≠ 28 := fun z => by
          rw [z] at ne
          cases ne
        refine ⟨_, fun σ' H' h => h, ?_⟩
        refine ⟨.ref a, rfl, .int j, rfl, .int ((m + 1 : Nat) : Int), rfl, ((m + 1 : Nat) : Int), 1, rfl, rfl, a, ns, j, ?_, hS2, hC, hlen, hj, fun H3 x3 k3 res => ?_⟩
        · show [V.ref a, V.int (j : Int), V.int (((m + 1 : Nat) : Int) - 1)] = _
          rw [show ((m + 1 : Nat) : Int) - 1 = ((m : Nat) : Int) by omega]
        rw [hd2] at q res
        cases hpm : part m (c2 :: ns.drop (j + 1)) with
        | none =>
          rw [hpm] at res
          obtain rfl : x3 = .non := res
          refine ⟨.non, rfl, rfl, _, rfl, ite2 (fun _ => ?_) (fun e => absurd (decide_eq_true rfl) e)⟩
          refine q H3 .non (k2.trans k3) ?_
          rw [parts_stop ne hpm]
          rfl
        | some tr =>
          obtain ⟨t, r⟩ := tr
          rw [hpm] at res
          obtain ⟨p, v, rfl, ep, hv⟩ := res
          obtain ⟨s1, s2⟩ := part_sound m (by rw [← hd2]; exact (C63.app ((List.take_append_drop j ns).symm ▸ hC)).2) hpm
          have hne := List.length_pos_iff.mpr (cells_ne s1)
          have hlr : (ns.drop j).length = (cellsOf t).length + r.length := by rw [hd2, s2, List.length_append]
          rw [List.length_drop] at hlr
          have hr2 := drop_suf (hd2.trans s2)
          refine ⟨.ref p, rfl, rfl, _, rfl, ite2 (fun e => by cases of_decide_eq_true e) (fun _ => ?_)⟩
          have el3 := k3 l _ el (.inr List.not_mem_nil)
          refine ⟨.ref l, rfl, .inl ⟨rfl, _, sqL el3⟩, .ref p, rfl, ixE (n := 0) (.inr (sqT ep)) rfl ⟨l, _, _, rfl, rfl, el3, small1000 (by omega), ?_⟩⟩
          have k6 : Kp [l] H3 (upd H3 l (.lst (vs ++ [v]))) := kp_set el3 rfl
          refine ⟨.ref p, rfl, ixE (n := 1) (.inr (sqT (k6.tup ep))) rfl ?_⟩
          refine ⟨ns.length - (ns.length - r.length), by omega, ns.length - r.length, vs ++ [v], ds ++ [t], g, some (.ref p), rfl, rfl, upd_same, fun b o e hb => ?_, fun S' => ?_, by rw [List.length_append]; show vs.length + 1 ≤ _; omega, by omega, ?_, ?_⟩
          · by_cases hbl : b = l
            · subst hbl
              rw [nl] at e
              cases e
            · rw [upd_ne hbl]
              exact (k2.trans k3) b o e hb
          · exact DaL.snoc (DaL.any (k3.of.trans k6) hD S') (Da.any k6 hv S')
          · rw [← hr2]
            rw [List.length_drop] at hg
            omega
          · rw [hp, hd2, parts_step ne hpm, ← hr2]
            cases partsF (part m) g r with
            | none => rfl
            | some q =>
              obtain ⟨es, r'⟩ := q
              dsimp only
              rw [List.append_assoc]
              rfl
      · have eq : c2 = 28 := by
          by_cases hh : c2 = 28
          · exact hh
          · refine absurd ?_ eq
            show (!decide (V.int c2 = V.int 28)) = true
            rw [decide_eq_false (fun z => hh (by injection z))]
            rfl
        subst eq
        refine ⟨.int j, rfl, .ref a, rfl, .ref a, ns.length, rfl, lenL hS2 lenV, _, _, rfl, rfl, _, rfl, ite2 (fun _ => ?_) (fun z => absurd (decide_eq_true (show (j : Int) < (ns.length : Int) by omega)) z)⟩
        refine ⟨.ref l, rfl, l, _, rfl, .inl ⟨sqL el, fun t5 nt5 => ?_⟩⟩
        have k5 : Kp [] H2 (upd H2 t5 (.tup vs)) := Kp.new nt5
        refine ⟨.int j, rfl, j, 1, rfl, rfl, small (by show 2 ≤ 1000; omega), fun t6 nt6 => ?_⟩
        have k6 : Kp [] (upd H2 t5 (.tup vs)) (upd (upd H2 t5 (.tup vs)) t6 (.tup [.ref t5, .int ((j : Int) + 1)])) := Kp.new nt6
        refine q _ _ (k2.trans (k5.trans k6)) ?_
        rw [hd2]
        unfold partsF
        rw [if_pos rfl]
        dsimp only
        rw [List.append_nil]
        refine ⟨t6, .ref t5, rfl, ?_, fun S => .tup (k6.tup upd_same) (DaL.any (T := []) (k5.trans k6) hD S)⟩
        rw [upd_same, List.length_drop, show ((ns.length - (ns.length - (j + 1)) : Nat) : Int) = (j : Int) + 1 by omega]
    · have gej : ns.length ≤ j := by
        by_cases hh : ns.length ≤ j
        · exact hh
        · exact absurd (decide_eq_true (by omega)) gej
      refine ite2 (fun z => by cases z) fun _ => ?_
      refine ⟨.int j, rfl, .ref a, rfl, .ref a, ns.length, rfl, lenL hS2 lenV, _, _, rfl, rfl, _, rfl, ite2 (fun z => absurd (of_decide_eq_true z) (show ¬ (j : Int) < (ns.length : Int) by omega)) (fun _ => ?_)⟩
      refine q _ .non k2 ?_
      rw [List.drop_of_length_le gej]
      rfl
end
end K18
set_option Elab.async false
set_option linter.all false
set_option maxRecDepth 100000
set_option maxHeartbeats 4000000
namespace K18
open PySem PySem.Spec PyProof.Rows L2 Kb
theorem part_len {m : Nat} {l r : List Int} {t : PyData} (hl : C63 l) (h : part m l = some (t, r)) : r.length ≤ l.length := by
  obtain ⟨_, e⟩ := part_sound m hl h
  rw [e, List.length_append]
  omega
theorem rep_flat (m : Nat) : (List.replicate m [V.int 28]).flatten = (List.replicate m (28 : Int)).map V.int := by
  induction m with
  | zero => rfl
  | succ m ih =>
    rw [List.replicate_succ, List.replicate_succ]
    show [V.int 28] ++ (List.replicate m [V.int 28]).flatten = V.int 28 :: _
    rw [ih]
    rfl
section
variable {P : Program} {w : World} {K : PySem.W.Frag} {mg : Str → Option Value} {base : Heap}
theorem ok_part {f : Addr} {fd : FuncData} {k : Nat} (F : Fun K "_law_part_in" "_law_part_in" s_l_part_in f fd) (T : Bi mg) (b0 : Binds K fd ["cells", "at", "deep"] []) (g0 : mg "_law_part_in" = some (.ref f)) : ∀ n : Nat, FnOk P w K mg base CX0 (k + 1 + n) f fd ["cells", "at", "deep"] (spPartIn n)
  | 0 => ok_part_step 0 (fun _ _ _ _ => False) (fun m h => by cases h) F T b0 g0 fnFalse
  | n + 1 => ok_part_step (n + 1) (spPartIn n) (fun m h => by cases h; rfl) F T b0 g0 ((ok_part (k := k) F T b0 g0 n).mono (by omega))
/-! ### _law_whole_tree -/
def WholeRes (H' : Hp) (p : Addr) : Option PyData → Prop
  | none => H' p = some (.lst [])
  | some t => ∃ v, H' p = some (.lst [v]) ∧ ∀ S, Da S H' v t
def spWhole : Sp := fun vs H Q _ => ∃ (a : Addr) (ns : List Int), vs = [.ref a] ∧ H a = some (.lst (ns.map V.int)) ∧ C63 ns ∧ ns.length ≤ 900 ∧ ∀ H' p, Kp [] H H' → H p = none → WholeRes H' p (wholeTree ns) → Q (.ref p) H'
theorem ok_whole {f f1 : Addr} {fd fd1 : FuncData} {k : Nat} (F : Fun K "_law_whole_tree" "_law_whole_tree" s_l_whole_tree f fd) (T : Bi mg)
    (F1 : Fun K "_law_part_in" "_law_part_in" s_l_part_in f1 fd1) (b1 : Binds K fd1 ["cells", "at", "deep"] []) (g1 : mg "_law_part_in" = some (.ref f1)) (G1 : FnOk P w K mg base CX0 (k + 13) f1 fd1 ["cells", "at", "deep"] (spPartIn 12)) :
    FnOk P w K mg base CX0 (k + 14) f fd ["cells"] spWhole := by
  refine F.ok sc_l_whole_tree (fun vs H Q E h => ?_) (fun cdv A outer s H vs Q E hr h => ?_)
  · obtain ⟨_, _, rfl, _⟩ := h
    rfl
  · obtain ⟨a, ns, rfl, hS, hC, hlen, q⟩ := h
    refine ⟨_, (pss_cons (ps_set (i := 1) sc_l_whole_tree.nd rfl (.inl rfl) (pe_call G1 hr (by rfl) g1 F1.kp b1 .nil pass0 (pa_cons (pv 0) (pa_cons pe_int (pa_cons pe_int pa_nil)))))
      (pss_one (ps_ret (pe_ifExp (PW.pt (pw_and (pt_cmpR op_notN (pv 1) pe_non (nomark _)) (pw_and1 (pt_cmpR op_eq (pe_ix ix_seq (pv 1) pe_int (fun _ _ => rfl)) (pe_callB call_len (by rfl) T.m_len (by decide +kernel) (pa_cons (pv 0) pa_nil)) (nomark _))))) (pe_lst (pa_cons (pe_ix ix_seq (pv 1) pe_int (fun _ _ => rfl)) pa_nil)) (pe_lst pa_nil))))), ?_⟩
    have lenV : (ns.map V.int).length = ns.length := List.length_map _
    refine ⟨.ref a, rfl, a, ns, 0, rfl, hS, hC, hlen, Nat.zero_le _, fun H1 x k1 res => ?_⟩
    rw [List.drop_zero] at res
    have empty : ∀ H2, Kp [] H H2 → wholeTree ns = none → ([] : List V).length ≤ sizeLine ∧ ∀ p, H2 p = none → Q (.ref p) (upd H2 p (.lst [])) := fun H2 k2 hn => ⟨small (by show 0 ≤ 1000; omega), fun p np => q _ p (k2.trans (Kp.new np)) (k2.none List.not_mem_nil np) (by rw [hn]; exact upd_same)⟩
    cases hp : part 12 ns with
    | none =>
      rw [hp] at res
      obtain rfl : x = .non := res
      refine ⟨.non, rfl, rfl, _, rfl, ite2 (fun z => by cases z) (fun _ => ite2 (fun z => by cases z) fun _ => empty H1 k1 ?_)⟩
      unfold wholeTree
      rw [hp]
    | some tr =>
      obtain ⟨t, r⟩ := tr
      rw [hp] at res
      obtain ⟨p, v, rfl, ep, hv⟩ := res
      have hrl := part_len hC hp
      refine ⟨.ref p, rfl, rfl, _, rfl, ite2 (fun _ => ?_) (fun z => absurd rfl z)⟩
      refine ⟨.ref p, rfl, ixE (n := 1) (.inr (sqT ep)) rfl ⟨.ref a, rfl, .ref a, ns.length, rfl, lenL (k1 a _ hS (.inr List.not_mem_nil)) lenV, rfl, _, rfl, ite2 (fun g => ?_) (fun g => ?_)⟩⟩
      · have hr0 : r = [] := by
          have g := of_decide_eq_true g
          injection g with g
          by_cases hr : r = []
          · exact hr
          · have := List.length_pos_iff.mpr hr
            omega
        subst hr0
        have hw : wholeTree ns = some t := by
          unfold wholeTree
          rw [hp]
        refine ⟨.ref p, rfl, ixE (n := 0) (.inr (sqT ep)) rfl ⟨small (by show 1 ≤ 1000; omega), fun p2 np2 => ?_⟩⟩
        refine q _ p2 (k1.trans (Kp.new np2)) (k1.none List.not_mem_nil np2) ?_
        rw [hw]
        exact ⟨v, upd_same, fun S => Da.any (T := []) (Kp.new np2) hv S⟩
      · refine empty H1 k1 ?_
        unfold wholeTree
        rw [hp]
        cases r with
        | nil =>
          refine absurd (decide_eq_true ?_) g
          show V.int ((ns.length - 0 : Nat) : Int) = V.int ns.length
          rw [Nat.sub_zero]
        | cons c r => rfl
/-! ### _law_goes_on -/
def wholeTails (ns t : List Int) (j : Nat) : Bool := (wholeTree (ns ++ t ++ List.replicate j 28)).isSome
def spGoes : Sp := fun vs H Q _ => ∃ (a : Addr) (ns : List Int), vs = [.ref a] ∧ H a = some (.lst (ns.map V.int)) ∧ C63 ns ∧ ns.length ≤ 800 ∧ ∀ H', Kp [] H H' → Q (.bl (good ns)) H'
theorem ok_goes {f f1 : Addr} {fd fd1 : FuncData} {k : Nat} (F : Fun K "_law_goes_on" "_law_goes_on" s_l_goes_on f fd) (T : Bi mg)
    (F1 : Fun K "_law_whole_tree" "_law_whole_tree" s_l_whole_tree f1 fd1) (b1 : Binds K fd1 ["cells"] []) (g1 : mg "_law_whole_tree" = some (.ref f1)) (G1 : FnOk P w K mg base CX0 (k + 14) f1 fd1 ["cells"] spWhole) :
    FnOk P w K mg base CX0 (k + 15) f fd ["cells"] spGoes := by
  refine F.ok sc_l_goes_on (fun vs H Q E h => ?_) (fun cdv A outer s H vs Q E hr h => ?_)
  · obtain ⟨_, _, rfl, _⟩ := h
    rfl
  · obtain ⟨a, ns, rfl, hS, hC, hlen, q⟩ := h
    refine ⟨_, (pss_cons (ps_for PassesOwn.never rfl (pi_list (pe_lst (pa_cons (pe_lst pa_nil) (pa_cons (pe_lst (pa_cons pe_int pa_nil)) (pa_cons (pe_lst (pa_cons pe_int pa_nil)) (pa_cons (pe_lst (pa_cons pe_int pa_nil)) pa_nil)))))) (pg_name (i := 1) sc_l_goes_on.nd rfl (.inl rfl)) (pss_one (ps_for PassesOwn.never rfl (pi_range1 (by rfl) T.m_range (pa_cons pe_int pa_nil)) (pg_name (i := 2) sc_l_goes_on.nd rfl (.inl rfl)) (pss_one (ps_if (pt_cmpR (op_neD hr.units) (pe_call G1 hr (by rfl) g1 F1.kp b1 .nil pass0 (pa_cons (pe_op op_cat (pe_op op_cat (pv 0) (pv 1)) (pe_op op_rep (pe_lst (pa_cons pe_int pa_nil)) (pv 2))) pa_nil)) (pe_lst pa_nil) (nomark _)) (pss_one (ps_ret pe_bl)) pss_nil)))))
      (pss_one (ps_ret pe_bl))), ?_⟩
    rw [← any_good hC] at q
    refine ⟨small (by show 0 ≤ 1000; omega), fun p0 n0 => ⟨small (by show 1 ≤ 1000; omega), fun p1 n1 => ⟨small (by show 1 ≤ 1000; omega), fun p2 n2 => ⟨small (by show 1 ≤ 1000; omega), fun p3 n3 => ⟨small (by show 4 ≤ 1000; omega), fun p4 n4 => ?_⟩⟩⟩⟩⟩
    have k4 : Kp [] H (upd (upd (upd (upd (upd H p0 (.lst [])) p1 (.lst [.int 33])) p2 (.lst [.int 1])) p3 (.lst [.int 29])) p4 (.lst [.ref p0, .ref p1, .ref p2, .ref p3])) := ((((Kp.new n0).trans (Kp.new n1)).trans (Kp.new n2)).trans (Kp.new n3)).trans (Kp.new n4)
    have e4 : (upd (upd (upd (upd (upd H p0 (.lst [])) p1 (.lst [.int 33])) p2 (.lst [.int 1])) p3 (.lst [.int 29])) p4 (.lst [.ref p0, .ref p1, .ref p2, .ref p3])) p4 = some (.lst [.ref p0, .ref p1, .ref p2, .ref p3]) := upd_same
    have e3 := (Kp.new (S := []) (o := .lst [.ref p0, .ref p1, .ref p2, .ref p3]) n4) p3 _ upd_same (.inr List.not_mem_nil)
    have e2 := ((Kp.new (S := []) (o := .lst [.int 29]) n3).trans (Kp.new (o := .lst [.ref p0, .ref p1, .ref p2, .ref p3]) n4)) p2 _ upd_same (.inr List.not_mem_nil)
    have e1 := (((Kp.new (S := []) (o := .lst [.int 1]) n2).trans (Kp.new (o := .lst [.int 29]) n3)).trans (Kp.new (o := .lst [.ref p0, .ref p1, .ref p2, .ref p3]) n4)) p1 _ upd_same (.inr List.not_mem_nil)
    have e0 := ((((Kp.new (S := []) (o := .lst [.int 33]) n1).trans (Kp.new (o := .lst [.int 1]) n2)).trans (Kp.new (o := .lst [.int 29]) n3)).trans (Kp.new (o := .lst [.ref p0, .ref p1, .ref p2, .ref p3]) n4)) p0 _ upd_same (.inr List.not_mem_nil)
    have hat : ∀ {i : Nat} {v : V}, ([.ref p0, .ref p1, .ref p2, .ref p3] : List V)[i]? = some v → ∃ p t, v = .ref p ∧ tails[i]? = some t ∧ t ∈ tails ∧ t.length ≤ 1 ∧
        (upd (upd (upd (upd (upd H p0 (.lst [])) p1 (.lst [.int 33])) p2 (.lst [.int 1])) p3 (.lst [.int 29])) p4 (.lst [.ref p0, .ref p1, .ref p2, .ref p3])) p = some (.lst (t.map V.int)) := by
      intro i v h
      match i, h with
      | 0, h => exact ⟨p0, [], (Option.some.inj h).symm, rfl, by simp [tails], by simp, e0⟩
      | 1, h => exact ⟨p1, [33], (Option.some.inj h).symm, rfl, by simp [tails], by simp, e1⟩
      | 2, h => exact ⟨p2, [1], (Option.some.inj h).symm, rfl, by simp [tails], by simp, e2⟩
      | 3, h => exact ⟨p3, [29], (Option.some.inj h).symm, rfl, by simp [tails], by simp, e3⟩
      | n + 4, h => cases h
    clear e0 e1 e2 e3
    generalize (upd (upd (upd (upd (upd H p0 (.lst [])) p1 (.lst [.int 33])) p2 (.lst [.int 1])) p3 (.lst [.int 29])) p4 (.lst [.ref p0, .ref p1, .ref p2, .ref p3])) = H4 at k4 e4 hat
    refine ⟨p4, rfl, ⟨_, sqL e4⟩, ?_⟩
    refine for_list (xs := [.ref p0, .ref p1, .ref p2, .ref p3]) (fun i σ H' => Kp [] H4 H' ∧ (∃ y1 y2, σ = [some (.ref a), y1, y2]) ∧ ((tails.take i).any fun t => (List.range 13).any (wholeTails ns t)) = false) ⟨.refl, ⟨_, _, rfl⟩, rfl⟩ (fun i σ H' _ ⟨k, _⟩ => sqL (k p4 _ e4 (.inr List.not_mem_nil))) ?_ ?_
    · rintro i v σ H5 hv ⟨k5, ⟨y1, y2, rfl⟩, hE⟩
      obtain ⟨p, t, rfl, ht, htm, htl, ep⟩ := hat hv
      have hta : ((tails.take (i + 1)).any fun t => (List.range 13).any (wholeTails ns t)) = (List.range 13).any (wholeTails ns t) := by
        rw [List.take_add_one, ht, List.any_append, hE]
        simp
      refine ⟨(13 : Int), rfl, by decide, by decide, ?_⟩
      refine for_range (Pv := fun j σ H' => Kp [] H4 H' ∧ (∃ y2, σ = [some (.ref a), some (.ref p), y2]) ∧ ((List.range j).any (wholeTails ns t)) = false) ⟨k5, ⟨_, rfl⟩, rfl⟩ ?_ ?_
      · rintro j σ H6 hj ⟨k6, ⟨y2, rfl⟩, hE2⟩
        have hj : j < 13 := hj
        have hS6 := (k4.trans k6) a _ hS (.inr List.not_mem_nil)
        have ep6 := k6 p _ ep (.inr List.not_mem_nil)
        have hr1 : (List.range (j + 1)).any (wholeTails ns t) = wholeTails ns t j := by
          rw [List.range_succ, List.any_append, hE2]
          simp
        refine ⟨.ref a, rfl, .ref p, rfl, catB hS6 ep6 (by rw [List.length_map, List.length_map]; omega) fun p7 n7 => ?_⟩
        have k7 : Kp [] H6 (upd H6 p7 (.lst (ns.map V.int ++ t.map V.int))) := Kp.new n7
        refine ⟨small (by show 1 ≤ 1000; omega), fun p8 n8 => ⟨.int (0 + (j : Int)), rfl, p8, 0 + (j : Int), _, rfl, rfl, upd_same, by omega, by omega, ?_, fun p9 n9 => ?_⟩⟩
        · show 1 * (0 + (j : Int)).toNat ≤ sizeLine
          rw [sizeLine_eq]
          omega
        have k8 : Kp [] (upd H6 p7 (.lst (ns.map V.int ++ t.map V.int))) (upd (upd H6 p7 (.lst (ns.map V.int ++ t.map V.int))) p8 (.lst [.int 28])) := Kp.new n8
        have k9 := Kp.new (S := []) (o := .lst (List.replicate (0 + (j : Int)).toNat [V.int 28]).flatten) n9
        have e79 := (k8.trans k9) p7 _ upd_same (.inr List.not_mem_nil)
        refine catB e79 upd_same (by rw [List.length_append, List.length_map, List.length_map, rep_flat, List.length_map, List.length_replicate]; omega) fun p10 n10 => ?_
        have k10 := Kp.new (S := []) (o := .lst ((ns.map V.int ++ t.map V.int) ++ (List.replicate (0 + (j : Int)).toNat [V.int 28]).flatten)) n10
        have kk : Kp [] H6 _ := ((k7.trans k8).trans k9).trans k10
        have e10 : (upd (upd (upd (upd H6 p7 (.lst (ns.map V.int ++ t.map V.int))) p8 (.lst [.int 28])) p9 (.lst (List.replicate (0 + (j : Int)).toNat [V.int 28]).flatten)) p10 (.lst ((ns.map V.int ++ t.map V.int) ++ (List.replicate (0 + (j : Int)).toNat [V.int 28]).flatten))) p10 = some (.lst ((ns ++ t ++ List.replicate j 28).map V.int)) := by
          rw [upd_same, rep_flat, show (0 + (j : Int)).toNat = j by omega, List.map_append, List.map_append]
        generalize (upd (upd (upd (upd H6 p7 (.lst (ns.map V.int ++ t.map V.int))) p8 (.lst [.int 28])) p9 (.lst (List.replicate (0 + (j : Int)).toNat [V.int 28]).flatten)) p10 (.lst ((ns.map V.int ++ t.map V.int) ++ (List.replicate (0 + (j : Int)).toNat [V.int 28]).flatten))) = H10 at kk e10
        have hC10 : C63 (ns ++ t ++ List.replicate j 28) := (hC.append (tails63 htm)).append (rep63 j)
        refine ⟨p10, _, rfl, e10, hC10, by rw [List.length_append, List.length_append, List.length_replicate]; omega, fun H11 p11 k11 n11 res => ?_⟩
        refine ⟨small (by show 0 ≤ 1000; omega), fun p12 n12 => ?_⟩
        have k12 : Kp [] H11 (upd H11 p12 (.lst [])) := Kp.new n12
        have kAll : Kp [] H4 (upd H11 p12 (.lst [])) := k6.trans (kk.trans (k11.trans k12))
        cases hw : wholeTree (ns ++ t ++ List.replicate j 28) with
        | none =>
          rw [hw] at res
          have hwt : wholeTails ns t j = false := by
            unfold wholeTails
            rw [hw]
            rfl
          refine ⟨_, _, .lst (sqL (k12 p11 _ res (.inr List.not_mem_nil))) .nil, .lst (sqL upd_same) .nil, by decide, by decide, _, rfl, ?_⟩
          rw [eqv_nilL]
          refine ite2 (fun z => by cases z) (fun _ => ?_)
          exact ⟨kAll, ⟨_, rfl⟩, hr1.trans hwt⟩
        | some d =>
          rw [hw] at res
          obtain ⟨v, e11, hv⟩ := res
          have hwt : wholeTails ns t j = true := by
            unfold wholeTails
            rw [hw]
            rfl
          obtain ⟨t1, _⟩ := (whole_iff hC10).mp hw
          obtain ⟨l1, l2, l3⟩ := tree_lay d 12 t1
          refine ⟨_, _, .lst (sqL (k12 p11 _ e11 (.inr List.not_mem_nil))) (.cons (Da.kp (S := []) k12 (hv [])).dp .nil), .lst (sqL upd_same) .nil, shaped_list (n := 12) (fun x m => by rw [List.mem_singleton.mp m]; exact ⟨l1, l2⟩) (by decide), by decide, _, rfl, ?_⟩
          rw [eqv_nilL]
          refine ite2 (fun _ => ?_) (fun z => absurd rfl z)
          have hany : anyTail ns = true := by
            unfold anyTail
            refine List.any_eq_true.mpr ⟨t, htm, List.any_eq_true.mpr ⟨j, List.mem_range.mpr hj, ?_⟩⟩
            exact hwt
          have := q _ (k4.trans kAll)
          rw [hany] at this
          exact this
      · rintro σ H6 ⟨k6, ⟨y2, rfl⟩, hE2⟩
        exact ⟨k6, ⟨_, _, rfl⟩, hta.trans hE2⟩
    · rintro σ H5 ⟨k5, ⟨y1, y2, rfl⟩, hE⟩
      have hany : anyTail ns = false := hE
      have := q _ (k4.trans k5)
      rw [hany] at this
      exact this
/-! ### _law_wrong_cell -/
def spWrong : Sp := fun vs H Q _ => ∃ (a : Addr) (ns : List Int), vs = [.ref a] ∧ H a = some (.lst (ns.map V.int)) ∧ C63 ns ∧ ns.length ≤ 700 ∧
  ∀ H' low, Kp [] H H' → low ≤ ns.length → good (ns.take low) = true → (low < ns.length → good (ns.take (low + 1)) = false) → Q (if low = ns.length then .non else .int ((low : Nat) : Int)) H'
theorem ok_wrong {f f1 : Addr} {fd fd1 : FuncData} {k : Nat} (F : Fun K "_law_wrong_cell" "_law_wrong_cell" s_l_wrong_cell f fd) (T : Bi mg)
    (F1 : Fun K "_law_goes_on" "_law_goes_on" s_l_goes_on f1 fd1) (b1 : Binds K fd1 ["cells"] []) (g1 : mg "_law_goes_on" = some (.ref f1)) (G1 : FnOk P w K mg base CX0 (k + 15) f1 fd1 ["cells"] spGoes) :
    FnOk P w K mg base CX0 (k + 16) f fd ["cells"] spWrong := by
  refine F.ok sc_l_wrong_cell (fun vs H Q E h => ?_) (fun cdv A outer s H vs Q E hr h => ?_)
  · obtain ⟨_, _, rfl, _⟩ := h
    rfl
  · obtain ⟨a, ns, rfl, hS, hC, hlen, q⟩ := h
    refine ⟨_, (pss_cons (ps_par (i := 1) (j := 2) (by rfl) sc_l_wrong_cell.nd rfl rfl (by decide) rfl rfl (pa_cons pe_int (pa_cons (pe_callB call_len (by rfl) T.m_len (by decide +kernel) (pa_cons (pv 0) pa_nil)) pa_nil)) (by rfl))
      (pss_cons (ps_while PassesOwn.never (pt_cmpR op_lt (pv 1) (pv 2) (nomark _)) (pss_cons (ps_set (i := 3) sc_l_wrong_cell.nd rfl (.inl rfl) (pe_op op_fdiv (pe_op op_add (pv 1) (pv 2)) pe_int))
        (pss_one (ps_if (pt_val (pe_call G1 hr (by rfl) g1 F1.kp b1 .nil pass0 (pa_cons (pe_callTy call_list_of (by rfl) T.m_list (by decide +kernel) (pa_cons (pe_slice sl_list (pv 0) po_none (po_some (pe_op op_add (pv 3) pe_int))) pa_nil)) pa_nil))) (pss_one (ps_set (i := 1) sc_l_wrong_cell.nd rfl (.inl rfl) (pe_op op_add (pv 3) pe_int))) (pss_one (ps_set (i := 2) sc_l_wrong_cell.nd rfl (.inl rfl) (pv 3)))))))
      (pss_one (ps_ret (pe_ifExp (pt_cmpR op_eq (pv 1) (pe_callB call_len (by rfl) T.m_len (by decide +kernel) (pa_cons (pv 0) pa_nil)) (nomark _)) pe_non (pv 1)))))), ?_⟩
    have lenV : (ns.map V.int).length = ns.length := List.length_map _
    refine ⟨.ref a, rfl, .ref a, ns.length, rfl, lenL hS lenV, .int 0, .int ns.length, rfl, ?_⟩
    refine ⟨fun m' σ H' => ∃ (low high : Nat) (y3 : Option V), m' = high - low ∧ σ = [some (.ref a), some (.int low), some (.int high), y3] ∧ Kp [] H H' ∧ low ≤ high ∧ high ≤ ns.length ∧ good (ns.take low) = true ∧ (high < ns.length → good (ns.take (high + 1)) = false),
      ⟨_, 0, ns.length, none, rfl, rfl, .refl, Nat.zero_le _, Nat.le_refl _, rfl, fun h => absurd h (Nat.lt_irrefl _)⟩, ?_⟩
    rintro m' σ H2 ⟨low, high, y3, rfl, rfl, k2, h1, h2, h3, h4⟩
    refine ⟨.int low, rfl, .int high, rfl, low, high, rfl, rfl, _, rfl, ite2 (fun lt => ?_) (fun ge => ?_)⟩
    · have lt : low < high := by
        have := of_decide_eq_true lt
        omega
      refine ⟨_, fun σ' H' h => h, ?_⟩
      obtain ⟨mid, hmid⟩ : ∃ mid : Nat, mid = (low + high) / 2 := ⟨_, rfl⟩
      have hm1 : low ≤ mid := by omega
      have hm2 : mid < high := by omega
      refine ⟨.int low, rfl, .int high, rfl, low, high, rfl, rfl, (low : Int) + high, 2, rfl, rfl, ?_, ?_⟩
      · exact ⟨(show (0 : Int) < 2 by decide), (show (2 : Int) < 1073741824 by decide)⟩
      dsimp only
      rw [show ((low : Int) + high) / 2 = (mid : Int) by omega]
      have hS2 := k2 a _ hS (.inr List.not_mem_nil)
      refine ⟨.ref a, rfl, .int mid, rfl, mid, 1, rfl, rfl, _, rfl, a, _, rfl, sqL hS2, fun ps nps => ?_⟩
      have kA : Kp [] H2 (upd H2 ps (.lst (cutV (ns.map V.int) none (some ((mid : Int) + 1))))) := Kp.new nps
      have eA : (upd H2 ps (.lst (cutV (ns.map V.int) none (some ((mid : Int) + 1))))) ps = some (.lst ((ns.take (mid + 1)).map V.int)) := by
        rw [upd_same, show (mid : Int) + 1 = ((mid + 1 : Nat) : Int) by omega, cut_take, List.map_take]
      generalize (upd H2 ps (.lst (cutV (ns.map V.int) none (some ((mid : Int) + 1))))) = H3 at kA eA
      refine ⟨ps, _, rfl, .inl (sqL eA), fun pl npl => ?_⟩
      have kB : Kp [] H3 (upd H3 pl (.lst ((ns.take (mid + 1)).map V.int))) := Kp.new npl
      refine ⟨pl, ns.take (mid + 1), rfl, upd_same, fun c m => hC c (List.mem_of_mem_take m), by rw [List.length_take]; omega, fun H5 k5 => ⟨_, rfl, ?_⟩⟩
      have kk := k2.trans (kA.trans (kB.trans k5))
      cases hg : good (ns.take (mid + 1)) with
      | true =>
        refine ite2 (fun _ => ?_) (fun z => absurd rfl z)
        exact ⟨.int mid, rfl, mid, 1, rfl, rfl, high - (mid + 1), by omega, mid + 1, high, some (.int mid), rfl, rfl, kk, by omega, h2, hg, h4⟩
      | false =>
        refine ite2 (fun z => by cases z) (fun _ => ?_)
        exact ⟨.int mid, rfl, mid - low, by omega, low, mid, some (.int mid), rfl, rfl, kk, by omega, by omega, h3, fun _ => hg⟩
    · have hlh : low = high := by
        have : ¬ low < high := fun z => ge (decide_eq_true (by omega))
        omega
      subst hlh
      refine ⟨.int low, rfl, .ref a, rfl, .ref a, ns.length, rfl, lenL (k2 a _ hS (.inr List.not_mem_nil)) lenV, rfl, _, rfl, ?_⟩
      have := q H2 low k2 h2 h3 h4
      by_cases hl : low = ns.length
      · rw [if_pos hl] at this
        exact ite2 (fun _ => this) (fun z => absurd (decide_eq_true (by rw [hl])) z)
      · rw [if_neg hl] at this
        exact ite2 (fun z => absurd (by have z := of_decide_eq_true z; injection z with z; omega) hl) (fun _ => ⟨.int low, rfl, this⟩)
end
end K18
set_option Elab.async false
set_option linter.all false
set_option maxRecDepth 100000
set_option maxHeartbeats 2000000
namespace K18
open PySem PySem.Spec PyProof.Rows L2 Kb
def qLaw : Str := (envOfC "law" (defScope s_law) 0 0 .none).qual ++ "<lambda>"
theorem consLst {t : TA} {σ : L2.St} {H : Hp} {Q : List V → Hp → Prop} (h : tLst t σ H fun v H1 => Q [v] H1) : tCons (tLst t) tNil σ H Q := h
theorem tabG_kp' {P : Addr} {S : List Addr} {H H' : Hp} (h : GxR.TabG H P) (k : Kp S H H') (n : P ∉ S) : GxR.TabG H' P := by
  obtain ⟨ps, e, t⟩ := h
  exact ⟨ps, k _ _ e (.inr n), t⟩
theorem tabS_kp' {P : Addr} {S : List Addr} {H H' : Hp} {q : Str} (h : LamX.TabS H P q) (k : Kp S H H') (n : P ∉ S) : LamX.TabS H' P q := by
  obtain ⟨ps, e, t, g⟩ := h
  exact ⟨ps, k _ _ e (.inr n), t, fun pos cv hcv => let ⟨c, e1, e2⟩ := g pos cv hcv; ⟨c, e1, k _ _ e2 (.inl rfl)⟩⟩
/-- the state between calls -/
structure Wd (P1 P3 : Addr) (H : Hp) (d w c : Addr) (N : Nat) : Prop where
  dr : Dr H d w c N
  t1 : GxR.TabG H P1
  t3 : LamX.TabS H P3 qLaw
section
variable {P1 P3 d w c : Addr} {H H' : Hp} {N M : Nat}
theorem Wd.off {o : Addr} (hW : Wd P1 P3 H d w c N) (h : o = P1 ∨ o = P3) : ∃ ps, H o = some (.tbl ps) := by
  obtain ⟨_, ⟨p1, e1, _⟩, ⟨p3, e3, _⟩⟩ := hW
  rcases h with rfl | rfl
  · exact ⟨_, e1⟩
  · exact ⟨_, e3⟩
theorem Wd.ndw {o : Addr} (hW : Wd P1 P3 H d w c N) (h : o = P1 ∨ o = P3) : o ∉ [d, w] := fun hm => by
  obtain ⟨ps, e⟩ := hW.off h
  obtain ⟨⟨r, t, ed, _, _⟩, ⟨ws, ew, _⟩, _⟩ := hW.dr
  simp only [List.mem_cons, List.not_mem_nil, or_false] at hm
  rcases hm with z | z
  · rw [z, ed] at e; cases e
  · rw [z, ew] at e; cases e
theorem Wd.drx {o : Addr} (hW : Wd P1 P3 H d w c N) (h : o = P1 ∨ o = P3) (k : Kp [o] H H') : Dr H' d w c N := by
  obtain ⟨ps, e⟩ := hW.off h
  refine hW.dr.kp k ?_ ?_ ?_ <;> intro z <;> rw [← List.mem_singleton.mp z] at e
  · obtain ⟨⟨r, t, ed, _, _⟩, _, _⟩ := hW.dr
    rw [ed] at e; cases e
  · obtain ⟨_, ⟨ws, ew, _⟩, _⟩ := hW.dr
    rw [ew] at e; cases e
  · obtain ⟨_, _, ⟨cs, ec, _⟩⟩ := hW.dr
    rw [ec] at e; cases e
theorem Wd.kp0 (hW : Wd P1 P3 H d w c N) (k : Kp [] H H') : Wd P1 P3 H' d w c N := ⟨hW.dr.kp0 k, tabG_kp' hW.t1 k List.not_mem_nil, tabS_kp' hW.t3 k List.not_mem_nil⟩
theorem Wd.kdw (hW : Wd P1 P3 H d w c N) (k : Kp [d, w] H H') (D : Dr H' d w c M) : Wd P1 P3 H' d w c M := ⟨D, tabG_kp' hW.t1 k (hW.ndw (.inl rfl)), tabS_kp' hW.t3 k (hW.ndw (.inr rfl))⟩
theorem Wd.k1 (hW : Wd P1 P3 H d w c N) (n13 : P1 ≠ P3) (k : Kp [P1] H H') (t : GxR.TabG H' P1) : Wd P1 P3 H' d w c N := ⟨hW.drx (.inl rfl) k, t, tabS_kp' hW.t3 k (fun z => n13 (List.mem_singleton.mp z).symm)⟩
theorem Wd.k3 (hW : Wd P1 P3 H d w c N) (n13 : P1 ≠ P3) (k : Kp [P3] H H') (t : LamX.TabS H' P3 qLaw) : Wd P1 P3 H' d w c N := ⟨hW.drx (.inr rfl) k, tabG_kp' hW.t1 k (fun z => n13 (List.mem_singleton.mp z)), t⟩
theorem Wd.mono (hW : Wd P1 P3 H d w c N) (h : N ≤ M) : Wd P1 P3 H d w c M := ⟨hW.dr.mono h, hW.t1, hW.t3⟩
/-- what may change -/
abbrev SS (P1 P3 d w : Addr) : List Addr := [P1, P3, d, w]
theorem Wd.fr (hW : Wd P1 P3 H d w c N) : Fr H (SS P1 P3 d w) := fun s hs e => by
  simp only [List.mem_cons, List.not_mem_nil, or_false] at hs
  obtain ⟨⟨r, t, ed, _, _⟩, ⟨ws, ew, _⟩, _⟩ := hW.dr
  rcases hs with h | h | h | h
  · obtain ⟨ps, q⟩ := hW.off (o := s) (.inl h); rw [q] at e; cases e
  · obtain ⟨ps, q⟩ := hW.off (o := s) (.inr h); rw [q] at e; cases e
  · rw [h, ed] at e; cases e
  · rw [h, ew] at e; cases e
theorem kdS (k : Kp [d, w] H H') : Kp (SS P1 P3 d w) H H' := k.mono fun b hb => by
  simp only [List.mem_cons, List.not_mem_nil, or_false] at hb ⊢
  rcases hb with z | z <;> simp [z]
theorem k1S (k : Kp [P1] H H') : Kp (SS P1 P3 d w) H H' := k.mono fun b hb => by rw [List.mem_singleton.mp hb]; simp
theorem k3S (k : Kp [P3] H H') : Kp (SS P1 P3 d w) H H' := k.mono fun b hb => by rw [List.mem_singleton.mp hb]; simp
end
section
variable {P1 P3 d w c : Addr} {H H' : Hp} {N M : Nat} {K : PySem.W.Frag}
/-- what no list of the law's own may be -/
abbrev SC (P1 P3 d w c : Addr) : List Addr := [P1, P3, d, w, c]
theorem Wd.frc (hW : Wd P1 P3 H d w c N) : Fr H (SC P1 P3 d w c) := fun s hs e => by
  simp only [List.mem_cons, List.not_mem_nil, or_false] at hs
  rcases hs with h | h | h | h | h
  · exact hW.fr s (by simp [h]) e
  · exact hW.fr s (by simp [h]) e
  · exact hW.fr s (by simp [h]) e
  · exact hW.fr s (by simp [h]) e
  · obtain ⟨_, _, ⟨cs, ec, _⟩⟩ := hW.dr
    rw [h, ec] at e
    cases e
theorem sc_ss {p : Addr} (h : p ∉ SC P1 P3 d w c) : p ∉ SS P1 P3 d w := fun m => h (by
  simp only [List.mem_cons, List.not_mem_nil, or_false] at m ⊢
  rcases m with z | z | z | z <;> simp [z])
theorem Wd.kn {p : Addr} (hW : Wd P1 P3 H d w c N) (hn : p ∉ SC P1 P3 d w c) (k : Kp [p] H H') : Wd P1 P3 H' d w c N := by
  simp only [List.mem_cons, List.not_mem_nil, or_false, not_or] at hn
  obtain ⟨h1, h3, h4, h5, h6⟩ := hn
  exact ⟨hW.dr.kp k (fun m => h4 (List.mem_singleton.mp m).symm) (fun m => h5 (List.mem_singleton.mp m).symm) (fun m => h6 (List.mem_singleton.mp m).symm), tabG_kp' hW.t1 k (fun m => h1 (List.mem_singleton.mp m).symm), tabS_kp' hW.t3 k (fun m => h3 (List.mem_singleton.mp m).symm)⟩
/-- the script stays -/
theorem script_stays {H0 : Hp} {a : Addr} {xs : List V} (hS : SqL K H0 a xs) (k0 : Kp [] H0 H) (nw : H0 w = none) (hW : Wd P1 P3 H d w c N) (k : Kp (SS P1 P3 d w) H H') : SqL K H' a xs := by
  have key : ∀ {u : HO}, H0 a = some u → (∀ ps, u ≠ .tbl ps) → (∀ kv, u ≠ .dK kv) → H' a = some u := fun {u} e h1 h2 => by
    have e1 := k0 a _ e (.inr List.not_mem_nil)
    refine k a _ e1 (.inr fun m => ?_)
    simp only [List.mem_cons, List.not_mem_nil, or_false] at m
    have tab : (a = P1 ∨ a = P3) → False := fun z => by
      obtain ⟨ps, q⟩ := hW.off z
      rw [e1] at q
      exact h1 ps (Option.some.inj q)
    rcases m with z | z | z | z
    · exact tab (.inl z)
    · exact tab (.inr z)
    · obtain ⟨⟨r, t, ed, _, _⟩, _, _⟩ := hW.dr
      rw [z, ed] at e1
      exact h2 _ (Option.some.inj e1).symm
    · rw [z, nw] at e
      cases e
  rcases hS with (e | ⟨o, e⟩) | h
  · exact .inl (.inl (key e (fun _ z => by cases z) fun _ z => by cases z))
  · exact .inl (.inr ⟨o, key e (fun _ z => by cases z) fun _ z => by cases z⟩)
  · exact .inr h
end
end K18
set_option Elab.async false
set_option linter.all false
set_option maxRecDepth 100000
set_option maxHeartbeats 8000000
namespace K18
open PySem PySem.Spec PyProof.Rows L2 Kb
theorem passes_no {P : Program} {w : World} {X : Cx} : Passes (L2.CX P w) X E0 := fun _ _ _ _ _ _ _ c => by
  obtain ⟨_, _, _, _, _, _, _, _, _, _, _, _, h⟩ := c
  exact h.elim
abbrev NL : List Str := ["script", "draw", "turn", "tree", "cells", "bend", "at", "deed", "new", "wrong", "whole", "told"]
theorem with_q {t : TE} {σ : L2.St} {H : Hp} {Q : VK} (h : ∀ Q' : VK, Q' = Q → t σ H Q') : t σ H Q := h _ rfl
/-- the list of cells -/
structure Cel (P1 P3 d w c : Addr) (H : Hp) (p : Addr) (cs : List Int) (n : Nat) : Prop where
  e : H p = some (.lst (cs.map V.int))
  ns : p ∉ SC P1 P3 d w c
  c63 : C63 cs
  len : cs.length ≤ n
theorem Cel.kp {P1 P3 d w c p : Addr} {H H' : Hp} {cs : List Int} {n : Nat} (h : Cel P1 P3 d w c H p cs n) (k : Kp (SS P1 P3 d w) H H') : Cel P1 P3 d w c H' p cs n := ⟨k p _ h.e (.inr (sc_ss h.ns)), h.ns, h.c63, h.len⟩
theorem Cel.mono {P1 P3 d w c p : Addr} {H : Hp} {cs : List Int} {n m : Nat} (h : Cel P1 P3 d w c H p cs n) (hn : n ≤ m) : Cel P1 P3 d w c H p cs m := ⟨h.e, h.ns, h.c63, Nat.le_trans h.len hn⟩
theorem wordCells_ge (w : List Nat) : w.length ≤ (wordCells w).length := by
  rcases List.eq_nil_or_concat w with rfl | ⟨r, l, rfl⟩
  · exact Nat.zero_le _
  · rw [List.concat_eq_append, wordCells_snoc]
    simp
mutual
theorem sz_cells : ∀ (d : PyData) (n : Nat), isTree n d = true → sz d ≤ 30 * (cellsOf d).length
  | .none, n, _ => by unfold sz cellsOf; simp
  | .bool b, n, _ => by unfold sz cellsOf; simp
  | .int i, n, _ => by unfold sz cellsOf; simp; omega
  | .str x, n, h => by
    have h : isWord x = true := by cases n <;> (unfold isTree at h; exact h)
    have h8 : x.length ≤ 8 := of_decide_eq_true (Bool.and_eq_true_iff.mp h).1
    have hne := List.length_pos_iff.mpr (cells_ne (d := .str x) (n := 0) (by unfold isTree; exact h))
    unfold sz
    omega
  | .tuple ds, 0, h => by
    unfold isTree at h
    cases h
  | .tuple ds, n + 1, h => by
    unfold isTree at h
    have := szs_cells ds n h
    show 20 + szs ds ≤ 30 * (27 :: (cellsAll ds ++ [28])).length
    rw [List.length_cons, List.length_append]
    omega
  | .list ds, n, h => by cases n <;> (unfold isTree at h; cases h)
  | .dict ds, n, h => by cases n <;> (unfold isTree at h; cases h)
theorem szs_cells : ∀ (ds : List PyData) (n : Nat), areTrees n ds = true → szs ds ≤ 30 * (cellsAll ds).length
  | [], n, _ => Nat.zero_le _
  | d :: ds, n, h => by
    unfold areTrees at h
    obtain ⟨h1, h2⟩ := Bool.and_eq_true_iff.mp h
    have a := sz_cells d n h1
    have b := szs_cells ds n h2
    show sz d + szs ds ≤ 30 * (cellsOf d ++ cellsAll ds).length
    rw [List.length_append]
    omega
end
theorem c63_tree {t : PyData} (h : isTree 12 t = true) : C63 (cellsOf t) := fun c m => by
  have := tree_cells63 t 12 h c m
  omega
def rTupOf (K : PySem.W.Frag) : List V → Hp → VK → Prop := fun xs H Q => ∃ p ys, xs = [.ref p] ∧ ((SqL K H p ys ∧ ∀ l, H l = none → Q (.ref l) (upd H l (.tup ys))) ∨ (SqT K H p ys ∧ Q (.ref p) H))
section
variable {P : Program} {w : World} {K : PySem.W.Frag} {mg : Str → Option Value} {base : Heap}
/-! ### law -/
def spLaw (K : PySem.W.Frag) (P1 P3 : Addr) : Sp := fun vs H Q _ => ∃ (a : Addr) (ns : List Int), vs = [.ref a] ∧ SqL K H a (ns.map V.int) ∧ ns.length ≤ 63 ∧ GxR.TabG H P1 ∧ LamX.TabS H P3 qLaw ∧ P1 ≠ P3 ∧ ∀ H', Q (.bl true) H'
theorem ok_law {f fB fT fP fR fL fA fX fW fG c3 P1 P3 CC CB CL : Addr} {fd fdB fdT fdP fdR fdL fdA fdX fdW fdG : FuncData} (F : Fun K "law" "law" s_law f fd) (T : Bi mg) (mR : mg "repr" = none) (hc : fd.code = .ref c3) (TB : LamX.TabB base mg c3 P3)
    (gC_ : mg "BadCells" = some (.ref CC)) (gF_ : mg "BadFile" = some (.ref CB)) (XC : ExcC K CC) (XB : ExcC K CB) (nB : PySem.W.findIn K (.ref CB) "at" = some none) (gL : mg "LinkError" = some (.ref CL)) (hCL : PySem.W.exmOne K (.ref CC) (.ref CL) = some true) (hBL : PySem.W.exmOne K (.ref CB) (.ref CL) = some true)
    (FB : Fun K "_law_begun" "_law_begun" s_l_begun fB fdB) (bB : Binds K fdB ["script"] []) (gB : mg "_law_begun" = some (.ref fB)) (GB : FnOk P w K mg base CX0 40 fB fdB ["script"] (spBegun K))
    (FT : Fun K "_law_take" "_law_take" s_l_take fT fdT) (bT : Binds K fdT ["draw", "many"] []) (gT : mg "_law_take" = some (.ref fT)) (GT : FnOk P w K mg base CX0 40 fT fdT ["draw", "many"] spTake)
    (FP : Fun K "_law_pick" "_law_pick" s_l_pick fP fdP) (bP : Binds K fdP ["draw", "some"] []) (gP : mg "_law_pick" = some (.ref fP)) (GP : FnOk P w K mg base CX0 40 fP fdP ["draw", "some"] (spPick K))
    (FR : Fun K "_law_tree" "_law_tree" s_l_tree fR fdR) (bR : Binds K fdR ["draw", "deep"] []) (gR : mg "_law_tree" = some (.ref fR)) (GR : FnOk P w K mg base CX0 40 fR fdR ["draw", "deep"] (spTree 12))
    (FL : Fun K "_law_tree_cells" "_law_tree_cells" s_l_tree_cells fL fdL) (bL : Binds K fdL ["tree"] []) (gLc : mg "_law_tree_cells" = some (.ref fL)) (GL : FnOk P w K mg base CX0 40 fL fdL ["tree"] (spLTC 12))
    (FW : Fun K "_law_whole_tree" "_law_whole_tree" s_l_whole_tree fW fdW) (bW : Binds K fdW ["cells"] []) (gW : mg "_law_whole_tree" = some (.ref fW)) (GW : FnOk P w K mg base CX0 40 fW fdW ["cells"] spWhole)
    (FG : Fun K "_law_wrong_cell" "_law_wrong_cell" s_l_wrong_cell fG fdG) (bG : Binds K fdG ["cells"] []) (gG : mg "_law_wrong_cell" = some (.ref fG)) (GG : FnOk P w K mg base CX0 40 fG fdG ["cells"] spWrong)
    (FA : Fun K "tree_of" "tree_of" s_tree_of fA fdA) (bA : Binds K fdA ["cells"] []) (gA : mg "tree_of" = some (.ref fA)) (GA : FnOk P w K mg base (L2.CX P w) 40 fA fdA ["cells"] (spTreeOf P1 CC CB))
    (FX : Fun K "_law_caught" "_law_caught" s_l_caught fX fdX) (bX : Binds K fdX ["act"] []) (gX : mg "_law_caught" = some (.ref fX)) :
    KbRp.RunG P w K mg base 50 f fd ["script"] (spLaw K P1 P3) := by
  refine KbRp.okG F hc sc_law (fun vs H Q E h => ?_) (fun A outer s H vs Q E hgd hr h => ?_)
  · obtain ⟨_, _, rfl, _⟩ := h
    rfl
  · obtain ⟨a, ns, rfl, hS, hlen, hT1, hT3, n13, q⟩ := h
    obtain ⟨oc, od, kV, doc, pm, an, cdg, ctg, osl, rfl, lk, hcg⟩ := FX.ex
    have h40 : Room 40 _ := hr.mono (by omega : 40 ≤ 49)
    have hu66 : (A.deeper (envOfC "law" (defScope s_law) s.heap.objs.size f (.ref c3))).units + 66 < cLine := by
      have := hr.un
      omega
    refine ⟨_, (pss_cons (ps_set (i := 1) sc_law.nd rfl (.inr rfl) (pe_call GB h40 (by rfl) gB FB.kp bB .nil pass0 (pa_cons (pv 0) pa_nil)))
      (pss_cons (ps_for PassesOwn.never rfl (pi_range1 (by rfl) T.m_range (pa_cons (pe_op op_add pe_int (pe_callB (call_min2 rfl) (by rfl) T.m_min (by decide +kernel) (pa_cons (pe_callB call_len (by rfl) T.m_len (by decide +kernel) (pa_cons (pv 0) pa_nil)) (pa_cons pe_int pa_nil)))) pa_nil)) (pg_name (i := 2) sc_law.nd rfl (.inl rfl)) (pss_cons (ps_set (i := 3) sc_law.nd rfl (.inl rfl) (pe_call GR h40 (by rfl) gR FR.kp bR .nil pass0 (pa_cons (pv 1) (pa_cons (pe_call GP h40 (by rfl) gP FP.kp bP .nil pass0 (pa_cons (pv 1) (pa_cons (pe_lst (pa_cons pe_int (pa_cons pe_int (pa_cons pe_int (pa_cons pe_int (pa_cons pe_int pa_nil)))))) pa_nil))) pa_nil))))
        (pss_cons (ps_set (i := 4) sc_law.nd rfl (.inr rfl) (pe_ifExp (pt_cmpR op_gt (pe_call GT h40 (by rfl) gT FT.kp bT .nil pass0 (pa_cons (pv 1) (pa_cons pe_int pa_nil))) pe_int (nomark _)) (pe_slice sl_list (pe_call GL h40 (by rfl) gLc FL.kp bL .nil pass0 (pa_cons (pv 3) pa_nil)) po_none (po_some pe_int)) (pe_lst pa_nil)))
        (pss_cons (ps_for PassesOwn.never rfl (pi_range1 (by rfl) T.m_range (pa_cons (pe_call GP h40 (by rfl) gP FP.kp bP .nil pass0 (pa_cons (pv 1) (pa_cons (pe_lst (pa_cons pe_int (pa_cons pe_int (pa_cons pe_int (pa_cons pe_int pa_nil))))) pa_nil))) pa_nil)) (pg_name (i := 5) sc_law.nd rfl (.inl rfl)) (pss_cons (ps_par3 (i := 6) (j := 7) (l := 8) (by rfl) sc_law.nd rfl rfl rfl (by decide) (by decide) (by decide) rfl rfl rfl (pa_cons (pe_call GT h40 (by rfl) gT FT.kp bT .nil pass0 (pa_cons (pv 1) (pa_cons (pe_op op_add (pe_callB call_len (by rfl) T.m_len (by decide +kernel) (pa_cons (pv 4) pa_nil)) pe_int) pa_nil))) (pa_cons (pe_call GT h40 (by rfl) gT FT.kp bT .nil pass0 (pa_cons (pv 1) (pa_cons pe_int pa_nil))) (pa_cons (pe_call GP h40 (by rfl) gP FP.kp bP .nil pass0 (pa_cons (pv 1) (pa_cons (pe_lst (pa_cons pe_int (pa_cons pe_int (pa_cons pe_int (pa_cons pe_int (pa_cons pe_int (pa_cons pe_int (pa_cons pe_int (pa_cons pe_int (pa_cons (pe_call GT h40 (by rfl) gT FT.kp bT .nil pass0 (pa_cons (pv 1) (pa_cons pe_int pa_nil))) pa_nil)))))))))) pa_nil))) pa_nil))) (by rfl))
          (pss_one (ps_set (i := 4) sc_law.nd rfl (.inr rfl) (pe_op op_cat (pe_op op_cat (pe_slice sl_list (pv 4) po_none (po_some (pv 6))) (pe_ifExp (pt_cmpR op_gt (pv 7) pe_int (nomark _)) (pe_lst (pa_cons (pv 8) pa_nil)) (pe_lst pa_nil))) (pe_slice sl_list (pv 4) (po_some (pe_op op_add (pv 6) (pe_callTy call_int1 (by rfl) T.m_int (by decide +kernel) (pa_cons (pe_cmpR op_lt (pv 7) pe_int (nomark _)) pa_nil)))) po_none))))))
        (pss_cons (ps_set (i := 4) sc_law.nd rfl (.inr rfl) (pe_ifExp (pt_cmpR op_eq (pe_call GT h40 (by rfl) gT FT.kp bT .nil pass0 (pa_cons (pv 1) (pa_cons pe_int pa_nil))) pe_int (nomark _)) (pe_slice sl_list (pv 4) po_none (po_some (pe_call GT h40 (by rfl) gT FT.kp bT .nil pass0 (pa_cons (pv 1) (pa_cons (pe_op op_add (pe_callB call_len (by rfl) T.m_len (by decide +kernel) (pa_cons (pv 4) pa_nil)) pe_int) pa_nil))))) (pv 4)))
        (pss_cons (ps_par (i := 9) (j := 10) (by rfl) sc_law.nd rfl rfl (by decide) rfl rfl (pa_cons (pe_call GG h40 (by rfl) gG FG.kp bG .nil pass0 (pa_cons (pv 4) pa_nil)) (pa_cons (pe_call GW h40 (by rfl) gW FW.kp bW .nil pass0 (pa_cons (pv 4) pa_nil)) pa_nil)) (by rfl))
        (pss_cons (ps_set (i := 11) sc_law.nd rfl (.inl rfl) (pe_lamcall1 (x := "_law_caught") (a := "act") (k := 45) (t := fun E => tCall (spTreeOf P1 CC CB) [] E (tCons (tIf (tTest (tOp rEq (tCall spTake [] E0 (tCons (tVar 1) (tCons (tC (.int 2)) tNil))) (tC (.int 0)))) (tVar 4) (tCB (rTupOf K) (tCons (tVar 4) tNil))) tNil))
            (by rfl) gX FX.kp lk hcg bX sc_l_caught rfl (.inl rfl) (caught_gives gL) TB rfl (hr.mono (by omega)) (LamX.lamS_by (by rfl)) (by rfl) (fun _ _ _ _ _ => rfl)
            (fun A outer s H E f c' hr' => by exact pe_call GA (hr'.mono (by omega)) (by rfl) gA FA.kp bA .nil (passes_call (takes_of rfl rfl rfl rfl) (fun _ _ _ _ h => h)) (pa_cons (pe_ifExp (pt_cmpR op_eq (pe_call GT (hr'.mono (by omega)) (by rfl) gT FT.kp bT .nil pass0 (pa_cons (pv 1) (pa_cons pe_int pa_nil))) pe_int (nomark _)) (pv 4) (pe_callTy call_tuple_of (by rfl) T.m_tuple (by decide +kernel) (pa_cons (pv 4) pa_nil))) pa_nil))))
        (pss_one (ps_if (pt_cmpR (op_neD hr.units) (pv 10) (pe_lst pa_nil) (nomark _)) (pss_one (ps_if (pt_cmpR op_ne (pe_callB (KbRp.call_repr hgd hu66) (by rfl) mR (by decide +kernel) (pa_cons (pv 11) pa_nil)) (pe_callB (KbRp.call_repr hgd hu66) (by rfl) mR (by decide +kernel) (pa_cons (pe_ix ix_seq (pv 10) pe_int (fun _ _ => rfl)) pa_nil)) (nomark _)) (pss_one (ps_ret pe_bl)) pss_nil)) (pss_one (ps_if (PW.pt (pw_or (pt_not (pt_val (pe_callB KbAt.call_isD (by rfl) T.m_isinstance (by decide +kernel) (pa_cons (pv 11) (pa_cons (pe_glob (v := .ref CB) (by rfl) gF_ rfl) pa_nil))))) (pw_or1 (pt_cmpR op_ne (KbAt.pe_at (pv 11)) (pe_ifExp (pt_cmpR op_isN (pv 9) pe_non (nomark _)) (pe_callB call_len (by rfl) T.m_len (by decide +kernel) (pa_cons (pv 4) pa_nil)) (pv 9)) (nomark _))))) (pss_one (ps_ret pe_bl)) pss_nil)))))))))))
      (pss_one (ps_ret (pe_callB call_isV (by rfl) T.m_isinstance (by decide +kernel) (pa_cons (pe_lamcall1 (x := "_law_caught") (a := "act") (k := 45) (t := fun E => tCall (spTreeOf P1 CC CB) [] E (tCons (tCall (spPick K) [] E0 (tCons (tVar 1) (tCons (tLst (tCons (tC .non) (tCons (tC (.int 5)) (tCons (tC (.str "29")) (tCons (tLst (tCons (tC (.int 64)) tNil)) (tCons (tTup (tCons (tC (.int 29)) (tCons (tC (.bl true)) tNil))) (tCons (tLst (tCons (tC (.int 29)) (tCons (tUn (rU fun i => .int (-i)) (tC (.int 1))) tNil))) tNil))))))) tNil))) tNil))
            (by rfl) gX FX.kp lk hcg bX sc_l_caught rfl (.inl rfl) (caught_gives gL) TB rfl (hr.mono (by omega)) (LamX.lamS_by (by rfl)) (by rfl) (fun _ _ _ _ _ => rfl)
            (fun A outer s H E f c' hr' => by exact pe_call GA (hr'.mono (by omega)) (by rfl) gA FA.kp bA .nil (passes_call (takes_of rfl rfl rfl rfl) (fun _ _ _ _ h => h)) (pa_cons (pe_call GP (hr'.mono (by omega)) (by rfl) gP FP.kp bP .nil pass0 (pa_cons (pv 1) (pa_cons (pe_lst (pa_cons pe_non (pa_cons pe_int (pa_cons pe_str (pa_cons (pe_lst (pa_cons pe_int pa_nil)) (pa_cons (pe_tup (pa_cons pe_int (pa_cons pe_bl pa_nil))) (pa_cons (pe_lst (pa_cons pe_int (pa_cons (pe_un un_neg pe_int) pa_nil))) pa_nil))))))) pa_nil))) pa_nil))) (pa_cons (pe_glob (v := .ref CC) (by rfl) gC_ rfl) pa_nil))))))), ?_⟩
    have lenN : (ns.map V.int).length = ns.length := List.length_map _
    refine ⟨.ref a, rfl, a, ns, rfl, hS, hlen, fun H1 d wa c kb hD0 nw => ?_⟩
    have W1 : Wd P1 P3 H1 d wa c 0 := ⟨hD0, tabG_kp' hT1 kb List.not_mem_nil, tabS_kp' hT3 kb List.not_mem_nil⟩
    have hSt : ∀ H', Kp (SS P1 P3 d wa) H1 H' → SqL K H' a (ns.map V.int) := fun H' k => script_stays hS kb nw W1 k
    refine ⟨.ref a, rfl, .ref a, ns.length, rfl, .inl ⟨_, hSt _ .refl, lenN.symm⟩, _, _, rfl, 3, _, rfl, rfl, _, rfl, ?_, ?_, ?_⟩
    · split <;> omega
    · split <;> omega
    have hJ : (3 + (if (6 : Int) < (ns.length : Int) then 6 else (ns.length : Int))).toNat ≤ 9 := by
      split <;> omega
    refine for_range (Pv := fun i σ H' => Wd P1 P3 H' d wa c (40000 * i) ∧ ∃ y2 y3 y4 y5 y6 y7 y8 y9 y10 y11, σ = [some (.ref a), some (.ref d), y2, y3, y4, y5, y6, y7, y8, y9, y10, y11]) ⟨W1, _, _, _, _, _, _, _, _, _, _, rfl⟩ ?_ ?_
    · rintro i σ H3 hi ⟨W3, y2, y3, y4, y5, y6, y7, y8, y9, y10, y11, rfl⟩
      obtain ⟨N, hN⟩ : ∃ N, N = 40000 * i := ⟨_, rfl⟩
      rw [← hN] at W3
      have hN6 : N ≤ 800000 := by omega
      have hNi : N + 40000 = 40000 * (i + 1) := by omega
      have b12 := bd_12
      -- tree
      refine ⟨.ref d, rfl, .ref d, rfl, small (by show 5 ≤ 1000; omega), fun p np => ?_⟩
      have W5 := W3.kp0 (Kp.new (o := .lst [.int 1, .int 2, .int 3, .int 3, .int 12]) np)
      refine ⟨d, wa, c, _, p, _, rfl, W5.dr, by omega, upd_same, W3.dr.there np, (fun z => by cases z), (show 5 ≤ 1000 by decide), fun H6 x k6 D6 hx => ?_⟩
      have W6 := W5.kdw k6 D6
      obtain ⟨m, rfl, hm⟩ : ∃ m : Nat, x = .int ((m : Nat) : Int) ∧ m ≤ 12 := by
        simp only [List.mem_cons, List.not_mem_nil, or_false] at hx
        rcases hx with rfl | rfl | rfl | rfl | rfl
        · exact ⟨1, rfl, by decide⟩
        · exact ⟨2, rfl, by decide⟩
        · exact ⟨3, rfl, by decide⟩
        · exact ⟨3, rfl, by decide⟩
        · exact ⟨12, rfl, by decide⟩
      have hbm := bd_mono hm
      refine ⟨d, wa, c, _, m, rfl, hm, W6.dr, by omega, fun H7 tx t k7 D7 hda htr hsz => ?_⟩
      have W7 := (W6.kdw k7 D7).mono (show _ ≤ N + 30002 by omega)
      clear W3 W5 W6 D6 D7 k6 k7 np
      have htr12 : isTree 12 t = true := isTree_mono hm htr
      -- cells
      try dsimp only [gName]
      refine with_rest (t := tAsg _ _) fun Rn hRn => ?_
      have rest : ∀ (H8 : Hp) (pc : Addr) (cs : List Int), Wd P1 P3 H8 d wa c (N + 30003) → Cel P1 P3 d wa c H8 pc cs 60 → Rn [some (.ref a), some (.ref d), some (.int (0 + (i : Int))), some tx, some (.ref pc), y5, y6, y7, y8, y9, y10, y11] H8 := by
        intro H8 pc cs W8 C8
        rw [hRn]
        clear hRn
        -- bends
        try dsimp only [gName]
        refine with_rest (t := tFor _ _ _) fun Rn hRn => ?_
        have rest : ∀ (H9 : Hp) (pc : Addr) (cs : List Int) (y5 y6 y7 y8 : Option V), Wd P1 P3 H9 d wa c (N + 30100) → Cel P1 P3 d wa c H9 pc cs 62 → Rn [some (.ref a), some (.ref d), some (.int (0 + (i : Int))), some tx, some (.ref pc), y5, y6, y7, y8, y9, y10, y11] H9 := by
          intro H9 pc cs y5 y6 y7 y8 W9 C9
          rw [hRn]
          clear hRn
          try dsimp only [gName]
          refine with_rest (t := tAsg _ _) fun Rn hRn => ?_
          have rest : ∀ (H10 : Hp) (pc : Addr) (cs : List Int), Wd P1 P3 H10 d wa c (N + 30110) → Cel P1 P3 d wa c H10 pc cs 62 → Rn [some (.ref a), some (.ref d), some (.int (0 + (i : Int))), some tx, some (.ref pc), y5, y6, y7, y8, y9, y10, y11] H10 := by
            intro H10 pc cs W10 C10
            rw [hRn]
            clear hRn
            have hcl := C10.len
            -- wrong, whole
            refine ⟨.ref pc, rfl, pc, cs, rfl, C10.e, C10.c63, by omega, fun H11 low k11 hlow hg1 hg2 => ?_⟩
            have W11 := W10.kp0 k11
            have C11 := C10.kp k11.of
            refine ⟨.ref pc, rfl, pc, cs, rfl, C11.e, C11.c63, by omega, fun H12 pw k12 npw res => ?_⟩
            have W12 := W11.kp0 k12
            have C12 := C11.kp k12.of
            have pwS := W11.frc.ni npw
            refine ⟨_, _, rfl, ?_⟩
            refine ⟨W12.t3, fun H13 e13 t13 => ?_⟩
            have k13 : Kp [P3] H12 H13 := Kp.ofExtP W12.t3 e13
            have W13 := W12.k3 n13 k13 t13
            have C13 := C12.kp (k3S k13)
            obtain ⟨wv, hwv⟩ : ∃ wv : V, wv = (if low = cs.length then V.non else V.int ((low : Nat) : Int)) := ⟨_, rfl⟩
            rw [← hwv]
            unfold TCaught
            dsimp only
            refine with_q (t := tIf _ _ _) fun Q' hQ' => ?_
            have key : ∀ (x : V) (dd : PyData) (H' : Hp), Da (SS P1 P3 d wa) H' x dd → isOf dd = cs → cellsOk dd = true → (dsOf dd).length ≤ 200000 → Wd P1 P3 H' d wa c (N + 30200) → Kp (SS P1 P3 d wa) H12 H' → Q' x H' := by
              intro x dd H14 hda hio hck hdl W14 k14
              rw [hQ']
              clear hQ'
              refine ⟨SS P1 P3 d wa, x, dd, rfl, hda, by simp, W14.t1, hdl, (fun hz => by rw [hck] at hz; cases hz), (fun _ mm H15 d24 he k15 g15 nd15 => ⟨hBL, fun ea na => ?_⟩), (fun _ t2 ht2 x2 H15 k15 g15 hx2 => ?_)⟩
              · -- the error
                rw [hio] at he
                have hw : wholeTree cs = none := by
                  cases hw : wholeTree cs with
                  | none => rfl
                  | some t2 =>
                    rw [(whole_tree_of C10.c63).mp hw] at he
                    cases he
                have hmm : mm = low := by
                  rw [low_told hlow hg1 hg2 hw C10.c63] at he
                  injection he with he
                  exact he.symm
                subst hmm
                rw [hw] at res
                have ne : d24 ≠ ea := fun e => by rw [e, upd_same] at na; cases na
                have k25 : Kp [P1] H14 (upd (upd H15 d24 (.xd [("at", .int mm)])) ea (ExV (.ref CB) (some d24) ea)) := (k15.put2 nd15).put2 na
                have W25 := ((W14.k1 n13 k15 g15).kp0 (Kp.new (o := .xd [("at", .int mm)]) nd15)).kp0 (Kp.new (o := ExV (.ref CB) (some d24) ea) na)
                have kk : Kp (SS P1 P3 d wa) H12 (upd (upd H15 d24 (.xd [("at", .int mm)])) ea (ExV (.ref CB) (some d24) ea)) := k14.trans (k1S k25)
                have ew := kk pw _ res (.inr (sc_ss pwS))
                have C25 := C12.kp kk
                have eE : (upd (upd H15 d24 (.xd [("at", .int mm)])) ea (ExV (.ref CB) (some d24) ea)) ea = some (ExV (.ref CB) (some d24) ea) := upd_same
                have eD : (upd (upd H15 d24 (.xd [("at", .int mm)])) ea (ExV (.ref CB) (some d24) ea)) d24 = some (.xd [("at", .int mm)]) := by rw [upd_ne ne, upd_same]
                generalize (upd (upd H15 d24 (.xd [("at", .int mm)])) ea (ExV (.ref CB) (some d24) ea)) = H25 at W25 ew C25 eE eD
                refine ⟨.ref pw, rfl, small (by show 0 ≤ 1000; omega), fun p np => ?_⟩
                have kp : Kp [] H25 (upd H25 p (.lst [])) := Kp.new np
                have W26 := W25.kp0 kp
                refine ⟨_, _, .lst (sqL (kp pw _ ew (.inr List.not_mem_nil))) .nil, .lst (sqL upd_same) .nil, by decide, by decide, _, rfl, ?_⟩
                rw [eqv_nilL]
                refine ite2 (fun z => by cases z) (fun _ => ?_)
                have eE := kp ea _ eE (.inr List.not_mem_nil)
                have eD := kp d24 _ eD (.inr List.not_mem_nil)
                have C26 := C25.kp kp.of
                generalize upd H25 p (.lst []) = H26 at W26 eE eD C26
                refine ⟨.ref ea, rfl, ea, CB, d24, _, .ref CB, .ref CB, true, rfl, eE, eD, XB, fun u hu => hu, kit_self, _, rfl, ?_⟩
                refine ite2 (fun z => by cases z) fun _ => ?_
                refine ⟨.ref ea, rfl, ea, CB, d24, .int mm, rfl, eE, eD, XB.hg, XB.hk, nB, XB.hd, XB.hs, ?_⟩
                by_cases hl : mm = cs.length
                · rw [if_pos hl] at hwv
                  subst hwv
                  refine ⟨.non, rfl, rfl, _, rfl, ite2 (fun _ => ?_) (fun z => absurd (decide_eq_true rfl) z)⟩
                  refine ⟨.ref pc, rfl, .ref pc, cs.length, rfl, lenL C26.e (List.length_map _), rfl, _, rfl, ?_⟩
                  refine ite2 (fun z => by rw [show decide (V.int (mm : Int) = V.int (cs.length : Int)) = true from decide_eq_true (by rw [hl])] at z; cases z) fun _ => ?_
                  exact ⟨W26.mono (by omega), _, _, _, _, _, _, _, _, _, _, rfl⟩
                · rw [if_neg hl] at hwv
                  subst hwv
                  refine ⟨.int mm, rfl, rfl, _, rfl, ite2 (fun z => by cases of_decide_eq_true z) (fun _ => ?_)⟩
                  refine ⟨.int mm, rfl, rfl, _, rfl, ?_⟩
                  refine ite2 (fun z => by rw [show decide (V.int (mm : Int) = V.int (mm : Int)) = true from decide_eq_true rfl] at z; cases z) fun _ => ?_
                  exact ⟨W26.mono (by omega), _, _, _, _, _, _, _, _, _, _, rfl⟩
              · -- the tree
                rw [hio] at ht2
                have hw := (whole_tree_of C10.c63).mpr ht2
                obtain ⟨ht12, hcs⟩ := (whole_iff C10.c63).mp hw
                rw [hw] at res
                obtain ⟨v, ew, hv⟩ := res
                obtain ⟨l1, l2, l3⟩ := tree_lay t2 12 ht12
                have hszt := sz_cells t2 12 ht12
                rw [← hcs] at hszt
                have hshow := shown_len t2 12 ht12
                have shw : t2.shown.length ≤ sizeLine := by
                  rw [sizeLine_eq]
                  omega
                have W15 := W14.k1 n13 k15 g15
                have kk : Kp (SS P1 P3 d wa) H12 H15 := k14.trans (k1S k15)
                have ew := kk pw _ ew (.inr (sc_ss pwS))
                refine ⟨.ref pw, rfl, small (by show 0 ≤ 1000; omega), fun p np => ?_⟩
                have kp : Kp [] H15 (upd H15 p (.lst [])) := Kp.new np
                have W26 := W15.kp0 kp
                have ew2 := kp pw _ ew (.inr List.not_mem_nil)
                have hv2 : ∀ S, Da S (upd H15 p (.lst [])) v t2 := fun S => Da.any (T := []) kp (fun S => Da.any kk hv S) S
                have hx3 : ∀ S, Da S (upd H15 p (.lst [])) x2 t2 := fun S => Da.any (T := []) kp hx2 S
                have ep : (upd H15 p (.lst [])) p = some (.lst []) := upd_same
                generalize upd H15 p (.lst []) = H26 at W26 ew2 hv2 hx3 ep
                refine ⟨_, _, .lst (sqL ew2) (.cons (hv2 []).dp .nil), .lst (sqL ep) .nil, shaped_list (n := 12) (fun x m => by rw [List.mem_singleton.mp m]; exact ⟨l1, l2⟩) (by decide), by decide, _, rfl, ?_⟩
                rw [eqv_nilL]
                refine ite2 (fun _ => ?_) (fun z => absurd rfl z)
                refine ⟨x2, rfl, x2, t2, rfl, (hx3 []).dp, l3, by omega, shw, ?_⟩
                refine ⟨.ref pw, rfl, ixE (n := 0) (.inl (sqL ew2)) rfl ⟨v, t2, rfl, (hv2 []).dp, l3, by omega, shw, ?_⟩⟩
                refine ⟨rfl, _, rfl, ite2 (fun z => by rw [show decide (V.str t2.shown = V.str t2.shown) = true from decide_eq_true rfl] at z; cases z) fun _ => ?_⟩
                exact ⟨W26.mono (by omega), _, _, _, _, _, _, _, _, _, _, rfl⟩
            refine ⟨.ref d, rfl, d, wa, c, _, 2, rfl, W13.dr, by omega, by decide, by decide, fun H14 r k14 D14 r0 r2 => ⟨rfl, _, rfl, ite2 (fun _ => ?_) (fun _ => ?_)⟩⟩
            · have W14 := W13.kdw k14 D14
              have C14 := C13.kp (kdS k14)
              refine ⟨.ref pc, rfl, key _ (.list (cs.map PyData.int)) H14 (.lst C14.e (sc_ss C14.ns) (DaL.ints _)) (ints_back _) (all63 ?_) ?_ (W14.mono (by omega)) ((k3S k13).trans (kdS k14))⟩
              · exact fun y m => by have := C14.c63 y m; omega
              · show (cs.map PyData.int).length ≤ 200000
                rw [List.length_map]
                omega
            · have W14 := W13.kdw k14 D14
              have C14 := C13.kp (kdS k14)
              refine ⟨.ref pc, rfl, pc, _, rfl, .inl ⟨sqL C14.e, fun tp ntp => ?_⟩⟩
              have kp : Kp [] H14 (upd H14 tp (.tup (cs.map V.int))) := Kp.new ntp
              refine key _ (.tuple (cs.map PyData.int)) _ (.tup upd_same (DaL.ints _)) (ints_back _) (all63 ?_) ?_ ((W14.kp0 kp).mono (by omega)) ((k3S k13).trans ((kdS k14).trans kp.of))
              · exact fun y m => by have := C14.c63 y m; omega
              · show (cs.map PyData.int).length ≤ 200000
                rw [List.length_map]
                omega
          refine ⟨.ref d, rfl, d, wa, c, _, 4, rfl, W9.dr, by omega, by decide, by decide, fun H10 r k10 D10 r0 r4 => ⟨rfl, _, rfl, ite2 (fun _ => ?_) (fun _ => ?_)⟩⟩
          · have W10 := W9.kdw k10 D10
            have C10 := C9.kp (kdS k10)
            have hcl := C10.len
            refine ⟨.ref pc, rfl, .ref d, rfl, .ref pc, rfl, .ref pc, cs.length, rfl, lenL C10.e (List.length_map _), _, 1, rfl, rfl, d, wa, c, _, _, rfl, W10.dr, by omega, by omega, by omega, fun H11 r2 k11 D11 q0 q1 => ?_⟩
            have W11 := W10.kdw k11 D11
            have C11 := C10.kp (kdS k11)
            obtain ⟨z, rfl⟩ : ∃ z : Nat, r2 = z := ⟨r2.toNat, by omega⟩
            refine ⟨_, rfl, pc, _, rfl, sqL C11.e, fun ps nps => ?_⟩
            refine rest _ ps (cs.take z) ((W11.kp0 (Kp.new nps)).mono (by omega)) ⟨?_, W11.frc.ni nps, fun y m => C11.c63 y (List.mem_of_mem_take m), ?_⟩
            · rw [upd_same, cut_take, List.map_take]
            · rw [List.length_take]
              omega
          · exact ⟨.ref pc, rfl, rest _ pc cs ((W9.kdw k10 D10).mono (by omega)) (C9.kp (kdS k10))⟩
        refine ⟨.ref d, rfl, small (by show 4 ≤ 1000; omega), fun p2 np2 => ?_⟩
        have W9 := W8.kp0 (Kp.new (o := .lst [.int 0, .int 1, .int 1, .int 2]) np2)
        have C9 := C8.kp (Kp.new (o := .lst [.int 0, .int 1, .int 1, .int 2]) np2)
        refine ⟨d, wa, c, _, p2, _, rfl, W9.dr, by omega, upd_same, W8.dr.there np2, (fun z => by cases z), (show 4 ≤ 1000 by decide), fun H10 x2 k10 D10 hx2 => ?_⟩
        have W10 := W9.kdw k10 D10
        have C10 := C9.kp (kdS k10)
        obtain ⟨j, rfl, hj⟩ : ∃ j : Nat, x2 = .int ((j : Nat) : Int) ∧ j ≤ 2 := by
          simp only [List.mem_cons, List.not_mem_nil, or_false] at hx2
          rcases hx2 with rfl | rfl | rfl | rfl
          · exact ⟨0, rfl, by decide⟩
          · exact ⟨1, rfl, by decide⟩
          · exact ⟨1, rfl, by decide⟩
          · exact ⟨2, rfl, by decide⟩
        refine ⟨(j : Int), rfl, by omega, by omega, ?_⟩
        refine for_range (Pv := fun i2 σ H' => Wd P1 P3 H' d wa c (N + 30010 + 10 * i2) ∧ ∃ pc cs y5 y6 y7 y8, Cel P1 P3 d wa c H' pc cs (60 + i2) ∧ σ = [some (.ref a), some (.ref d), some (.int (0 + (i : Int))), some tx, some (.ref pc), y5, y6, y7, y8, y9, y10, y11]) ⟨W10.mono (by omega), pc, cs, y5, y6, y7, y8, C10, rfl⟩ ?_ ?_
        · rintro i2 σ H11 hi2 ⟨W11, pc, cs, y5, y6, y7, y8, C11, rfl⟩
          have hi2 : i2 < 2 := by omega
          have hcl := C11.len
          -- at, deed, new
          refine ⟨.ref d, rfl, .ref pc, rfl, .ref pc, cs.length, rfl, lenL C11.e (List.length_map _), _, 1, rfl, rfl, d, wa, c, _, _, rfl, W11.dr, by omega, by omega, by omega, fun H12 r1 k12 D12 q0 q1 => ?_⟩
          have W12 := W11.kdw k12 D12
          have C12 := C11.kp (kdS k12)
          refine ⟨.ref d, rfl, d, wa, c, _, 3, rfl, W12.dr, by omega, by decide, by decide, fun H13 r2 k13 D13 q2 q3 => ?_⟩
          have W13 := W12.kdw k13 D13
          have C13 := C12.kp (kdS k13)
          refine ⟨.ref d, rfl, .ref d, rfl, d, wa, c, _, 64, rfl, W13.dr, by omega, by decide, by decide, fun H14 r3 k14 D14 q4 q5 => ?_⟩
          have W14 := W13.kdw k14 D14
          have C14 := C13.kp (kdS k14)
          refine ⟨small (by show 9 ≤ 1000; omega), fun p3 np3 => ?_⟩
          have k15 : Kp [] H14 (upd H14 p3 (.lst [.int 27, .int 28, .int 59, .int 32, .int 33, .int 1, .int 63, .int 0, .int r3])) := Kp.new np3
          have W15 := W14.kp0 k15
          have C15 := C14.kp k15.of
          refine ⟨d, wa, c, _, p3, _, rfl, W15.dr, by omega, upd_same, W14.dr.there np3, (fun z => by cases z), (show 9 ≤ 1000 by decide), fun H16 x3 k16 D16 hx3 => ?_⟩
          have W16 := W15.kdw k16 D16
          have C16 := C15.kp (kdS k16)
          obtain ⟨nw2, rfl, hn0, hn1⟩ : ∃ nw2 : Int, x3 = .int nw2 ∧ 0 ≤ nw2 ∧ nw2 ≤ 63 := by
            simp only [List.mem_cons, List.not_mem_nil, or_false] at hx3
            rcases hx3 with rfl | rfl | rfl | rfl | rfl | rfl | rfl | rfl | rfl <;> exact ⟨_, rfl, by omega, by omega⟩
          obtain ⟨z, rfl⟩ : ∃ z : Nat, r1 = z := ⟨r1.toNat, by omega⟩
          refine ⟨_, _, _, rfl, ?_⟩
          refine ⟨.ref pc, rfl, .int z, rfl, _, rfl, pc, _, rfl, sqL C16.e, fun p1 np1 => ?_⟩
          rw [cut_take]
          have k17 : Kp [] H16 (upd H16 p1 (.lst ((cs.map V.int).take z))) := Kp.new np1
          have e17 : (upd H16 p1 (.lst ((cs.map V.int).take z))) p1 = some (.lst ((cs.take z).map V.int)) := by rw [upd_same, List.map_take]
          generalize upd H16 p1 (.lst ((cs.map V.int).take z)) = H17 at k17 e17
          have W17 := W16.kp0 k17
          have C17 := C16.kp k17.of
          have p1S : p1 ∉ SC P1 P3 d wa c := W16.frc.ni np1
          refine with_q (t := tIf _ _ _) fun Q' hQ' => ?_
          have key : ∀ (H' : Hp) (p2 : Addr) (ys : List Int), Kp [] H17 H' → H' p2 = some (.lst (ys.map V.int)) → ys.length ≤ 1 → C63 ys → Q' (.ref p2) H' := by
            intro H18 p2 ys k18 e18 hyl hyc
            rw [hQ']
            clear hQ'
            have W18 := W17.kp0 k18
            have C18 := C17.kp k18.of
            refine catB (k18 p1 _ e17 (.inr List.not_mem_nil)) e18 (by rw [List.length_map, List.length_map, List.length_take]; omega) fun p4 np4 => ?_
            have k19 : Kp [] H18 (upd H18 p4 (.lst ((cs.take z).map V.int ++ ys.map V.int))) := Kp.new np4
            have e19 : (upd H18 p4 (.lst ((cs.take z).map V.int ++ ys.map V.int))) p4 = some (.lst ((cs.take z ++ ys).map V.int)) := by rw [upd_same, List.map_append]
            generalize upd H18 p4 (.lst ((cs.take z).map V.int ++ ys.map V.int)) = H19 at k19 e19
            have W19 := W18.kp0 k19
            have C19 := C18.kp k19.of
            obtain ⟨sk, hsk1, hsk⟩ : ∃ sk : Nat, sk ≤ 1 ∧ (if decide (r2 < 2) = true then (1 : Int) else 0) = sk := by
              cases decide (r2 < 2) with
              | true => exact ⟨1, Nat.le_refl _, rfl⟩
              | false => exact ⟨0, Nat.zero_le _, rfl⟩
            refine ⟨.ref pc, rfl, .int z, rfl, .int r2, rfl, r2, 2, rfl, rfl, .inr ⟨_, rfl, z, _, rfl, rfl, ?_⟩⟩
            dsimp only
            rw [hsk]
            refine ⟨_, rfl, pc, _, rfl, sqL C19.e, fun p5 np5 => ?_⟩
            rw [show (z : Int) + (sk : Int) = ((z + sk : Nat) : Int) by omega, cut_drop]
            have k20 : Kp [] H19 (upd H19 p5 (.lst ((cs.map V.int).drop (z + sk)))) := Kp.new np5
            have e20 : (upd H19 p5 (.lst ((cs.map V.int).drop (z + sk)))) p5 = some (.lst ((cs.drop (z + sk)).map V.int)) := by rw [upd_same, List.map_drop]
            generalize upd H19 p5 (.lst ((cs.map V.int).drop (z + sk))) = H20 at k20 e20
            have W20 := W19.kp0 k20
            refine catB (k20 p4 _ e19 (.inr List.not_mem_nil)) e20 (by rw [List.length_map, List.length_map, List.length_append, List.length_take, List.length_drop]; omega) fun p6 np6 => ?_
            have hlt : (cs.take z ++ ys ++ cs.drop (z + sk)).length ≤ 60 + (i2 + 1) := by
              rw [List.length_append, List.length_append, List.length_take, List.length_drop]
              omega
            refine ⟨(W20.kp0 (Kp.new np6)).mono (by omega), p6, cs.take z ++ ys ++ cs.drop (z + sk), _, _, _, _, ⟨?_, W20.frc.ni np6, ?_, hlt⟩, rfl⟩
            · rw [upd_same, ← List.map_append]
            · exact (C63.append (fun y m => C11.c63 y (List.mem_of_mem_take m)) hyc).append fun y m => C11.c63 y (List.mem_of_mem_drop m)
          refine ⟨.int r2, rfl, r2, 0, rfl, rfl, _, rfl, ite2 (fun _ => ?_) (fun _ => ?_)⟩
          · refine ⟨.int nw2, rfl, small (by show 1 ≤ 1000; omega), fun p2 np2 => ?_⟩
            exact key _ p2 [nw2] (Kp.new np2) upd_same (Nat.le_refl _) fun y m => by rw [List.mem_singleton.mp m]; exact ⟨hn0, hn1⟩
          · refine ⟨small (by show 0 ≤ 1000; omega), fun p2 np2 => ?_⟩
            exact key _ p2 [] (Kp.new np2) upd_same (Nat.zero_le _) fun y m => by cases m
        · rintro σ H11 ⟨W11, pc, cs, y5, y6, y7, y8, C11, rfl⟩
          exact rest H11 pc cs y5 y6 y7 y8 (W11.mono (by omega)) (C11.mono (by omega))
      refine ⟨.ref d, rfl, d, wa, c, _, 8, rfl, W7.dr, by omega, by decide, by decide, fun H8 r k8 D8 r0 r7 => ?_⟩
      have W8 := (W7.kdw k8 D8).mono (show _ ≤ N + 30003 by omega)
      refine ⟨r, 0, rfl, rfl, _, rfl, ite2 (fun _ => ?_) (fun _ => ?_)⟩
      · have hbt : sz t ≤ 30000 := by omega
        refine ⟨tx, rfl, SS P1 P3 d wa, tx, t, rfl, (hda _).kp (kdS k8), htr12, by omega, fun H9 pc k9 npc epc => ⟨_, rfl, pc, _, rfl, sqL epc, fun ps nps => ?_⟩⟩
        have W9 := W8.kp0 k9
        have k10 : Kp [] H9 (upd H9 ps (.lst (cutV ((cellsOf t).map V.int) none (some 60)))) := Kp.new nps
        refine rest _ ps ((cellsOf t).take 60) (W9.kp0 k10) ⟨?_, W9.frc.ni nps, fun y m => c63_tree htr12 y (List.mem_of_mem_take m), ?_⟩
        · rw [upd_same, show (60 : Int) = ((60 : Nat) : Int) from rfl, cut_take, List.map_take]
        · rw [List.length_take]
          omega
      · refine ⟨small (by show 0 ≤ 1000; omega), fun ps nps => ?_⟩
        exact rest _ ps [] (W8.kp0 (Kp.new nps)) ⟨upd_same, W8.frc.ni nps, fun y m => (by cases m), Nat.zero_le _⟩
    · rintro σ H3 ⟨W3, y2, y3, y4, y5, y6, y7, y8, y9, y10, y11, rfl⟩
      have hN : (40000 : Nat) * ((3 + (if (6 : Int) < (ns.length : Int) then 6 else (ns.length : Int))).toNat) ≤ 400000 := by omega
      obtain ⟨N, hN2⟩ : ∃ N, N = 40000 * ((3 + (if (6 : Int) < (ns.length : Int) then 6 else (ns.length : Int))).toNat) := ⟨_, rfl⟩
      rw [← hN2] at W3 hN
      refine ⟨W3.t3, fun H4 e4 t4 => ?_⟩
      have k4 : Kp [P3] H3 H4 := Kp.ofExtP W3.t3 e4
      have W4 := W3.k3 n13 k4 t4
      refine ⟨.ref d, rfl, small (by show 1 ≤ 1000; omega), fun p1 np1 => ⟨small (by show 2 ≤ 1000; omega), fun p2 np2 => ⟨1, rfl, small (by show 2 ≤ 1000; omega), fun p3 np3 => ⟨small (by show 6 ≤ 1000; omega), fun p4 np4 => ?_⟩⟩⟩⟩
      have k1 : Kp [] H4 (upd H4 p1 (.lst [.int 64])) := Kp.new np1
      have k2 : Kp [] _ (upd (upd H4 p1 (.lst [.int 64])) p2 (.tup [.int 29, .bl true])) := Kp.new np2
      have k3 : Kp [] _ (upd (upd (upd H4 p1 (.lst [.int 64])) p2 (.tup [.int 29, .bl true])) p3 (.lst [.int 29, .int (-1)])) := Kp.new np3
      have k5 : Kp [] _ (upd (upd (upd (upd H4 p1 (.lst [.int 64])) p2 (.tup [.int 29, .bl true])) p3 (.lst [.int 29, .int (-1)])) p4 (.lst [.non, .int 5, .str "29", .ref p1, .ref p2, .ref p3])) := Kp.new np4
      have e1 := ((k2.trans k3).trans k5) p1 _ upd_same (.inr List.not_mem_nil)
      have e2 := (k3.trans k5) p2 _ upd_same (.inr List.not_mem_nil)
      have e3 := k5 p3 _ upd_same (.inr List.not_mem_nil)
      have W5 := (((W4.kp0 k1).kp0 k2).kp0 k3).kp0 k5
      have d4 := (((W4.kp0 k1).kp0 k2).kp0 k3).dr.there np4
      have s1 : p1 ∉ SS P1 P3 d wa := sc_ss (W4.frc.ni np1)
      have s3 : p3 ∉ SS P1 P3 d wa := sc_ss (((W4.kp0 k1).kp0 k2).frc.ni np3)
      have eP : (upd (upd (upd (upd H4 p1 (.lst [.int 64])) p2 (.tup [.int 29, .bl true])) p3 (.lst [.int 29, .int (-1)])) p4 (.lst [.non, .int 5, .str "29", .ref p1, .ref p2, .ref p3])) p4 = some (.lst [.non, .int 5, .str "29", .ref p1, .ref p2, .ref p3]) := upd_same
      generalize (upd (upd (upd (upd H4 p1 (.lst [.int 64])) p2 (.tup [.int 29, .bl true])) p3 (.lst [.int 29, .int (-1)])) p4 (.lst [.non, .int 5, .str "29", .ref p1, .ref p2, .ref p3])) = H5 at e1 e2 e3 W5 eP
      refine ⟨d, wa, c, _, p4, _, rfl, W5.dr, by omega, eP, d4, (fun z => by cases z), (show 6 ≤ 1000 by decide), fun H6 x k6 D6 hx => ?_⟩
      have W6 := W5.kdw k6 D6
      have f1 := kdS (P1 := P1) (P3 := P3) k6 p1 _ e1 (.inr s1)
      have f2 := k6.tup e2
      have f3 := kdS (P1 := P1) (P3 := P3) k6 p3 _ e3 (.inr s3)
      obtain ⟨dd, hda, hck, hdl⟩ : ∃ dd, Da (SS P1 P3 d wa) H6 x dd ∧ cellsOk dd = false ∧ (dsOf dd).length ≤ 200000 := by
        simp only [List.mem_cons, List.not_mem_nil, or_false] at hx
        rcases hx with rfl | rfl | rfl | rfl | rfl | rfl
        · exact ⟨_, .non, by decide, by decide⟩
        · exact ⟨_, .int 5, by decide, by decide⟩
        · exact ⟨_, .str _, by decide +kernel, by decide +kernel⟩
        · exact ⟨.list [.int 64], .lst f1 s1 (.cons (.int _) .nil), by decide, by decide⟩
        · exact ⟨.tuple [.int 29, .bool true], .tup f2 (.cons (.int _) (.cons (.bl _) .nil)), by decide, by decide⟩
        · exact ⟨.list [.int 29, .int (-1)], .lst f3 s3 (.cons (.int _) (.cons (.int _) .nil)), by decide, by decide⟩
      refine ⟨SS P1 P3 d wa, x, dd, rfl, hda, by simp, W6.t1, hdl, (fun _ H7 k7 g7 => ⟨hCL, fun ea na => ?_⟩), (fun hz => by rw [hck] at hz; cases hz), (fun hz => by rw [hck] at hz; cases hz)⟩
      exact ⟨ea, CC, .ref CC, .ref CC, true, rfl, upd_same, XC, fun u hu => hu, kit_self, q _⟩
end
end K18
set_option Elab.async false
set_option linter.all false
set_option maxRecDepth 100000
set_option maxHeartbeats 0
namespace K18
open PySem PySem.Spec PyProof.Rows L2 Kb
/-! ### the head: facts by names -/
def d_is_number : He.DefD := ⟨("is_number", none), "is_number", "is_number", defArgs s_is_number, defBody s_is_number, defScope s_is_number, [], []⟩
def d_within : He.DefD := ⟨("within", none), "within", "within", defArgs s_within, defBody s_within, defScope s_within, [], []⟩
def d_is_cell : He.DefD := ⟨("is_cell", none), "is_cell", "is_cell", defArgs s_is_cell, defBody s_is_cell, defScope s_is_cell, [], []⟩
def d_are_cells : He.DefD := ⟨("are_cells", none), "are_cells", "are_cells", defArgs s_are_cells, defBody s_are_cells, defScope s_are_cells, [], []⟩
def d_tree_of : He.DefD := ⟨("tree_of", none), "tree_of", "tree_of", defArgs s_tree_of, defBody s_tree_of, defScope s_tree_of, [], []⟩
def d_l_begun : He.DefD := ⟨("_law_begun", none), "_law_begun", "_law_begun", defArgs s_l_begun, defBody s_l_begun, defScope s_l_begun, [], []⟩
def d_l_mixed : He.DefD := ⟨("_law_mixed", none), "_law_mixed", "_law_mixed", defArgs s_l_mixed, defBody s_l_mixed, defScope s_l_mixed, [], []⟩
def d_l_take : He.DefD := ⟨("_law_take", none), "_law_take", "_law_take", defArgs s_l_take, defBody s_l_take, defScope s_l_take, [], []⟩
def d_l_pick : He.DefD := ⟨("_law_pick", none), "_law_pick", "_law_pick", defArgs s_l_pick, defBody s_l_pick, defScope s_l_pick, [], []⟩
def d_l_caught : He.DefD := ⟨("_law_caught", none), "_law_caught", "_law_caught", defArgs s_l_caught, defBody s_l_caught, defScope s_l_caught, [], []⟩
def d_l_tree_cells : He.DefD := ⟨("_law_tree_cells", none), "_law_tree_cells", "_law_tree_cells", defArgs s_l_tree_cells, defBody s_l_tree_cells, defScope s_l_tree_cells, [], []⟩
def d_l_leaf : He.DefD := ⟨("_law_leaf", none), "_law_leaf", "_law_leaf", defArgs s_l_leaf, defBody s_l_leaf, defScope s_l_leaf, [], []⟩
def d_l_tree : He.DefD := ⟨("_law_tree", none), "_law_tree", "_law_tree", defArgs s_l_tree, defBody s_l_tree, defScope s_l_tree, [], []⟩
def d_l_part_in : He.DefD := ⟨("_law_part_in", none), "_law_part_in", "_law_part_in", defArgs s_l_part_in, defBody s_l_part_in, defScope s_l_part_in, [], []⟩
def d_l_whole_tree : He.DefD := ⟨("_law_whole_tree", none), "_law_whole_tree", "_law_whole_tree", defArgs s_l_whole_tree, defBody s_l_whole_tree, defScope s_l_whole_tree, [], []⟩
def d_l_goes_on : He.DefD := ⟨("_law_goes_on", none), "_law_goes_on", "_law_goes_on", defArgs s_l_goes_on, defBody s_l_goes_on, defScope s_l_goes_on, [], []⟩
def d_l_wrong_cell : He.DefD := ⟨("_law_wrong_cell", none), "_law_wrong_cell", "_law_wrong_cell", defArgs s_l_wrong_cell, defBody s_l_wrong_cell, defScope s_l_wrong_cell, [], []⟩
def d_law : He.DefD := ⟨("law", none), "law", "law", defArgs s_law, defBody s_law, defScope s_law, [], []⟩
def d_init : He.DefD := ⟨("TreeReading", some "__init__"), "__init__", "TreeReading.__init__", defArgs s_init, defBody s_init, defScope s_init, [], []⟩
def d_put : He.DefD := ⟨("TreeReading", some "put"), "put", "TreeReading.put", defArgs s_put, defBody s_put, defScope s_put, [], []⟩
def d_digit : He.DefD := ⟨("TreeReading", some "take_digit"), "take_digit", "TreeReading.take_digit", defArgs s_digit, defBody s_digit, defScope s_digit, [], []⟩
def d_letter : He.DefD := ⟨("TreeReading", some "take_letter"), "take_letter", "TreeReading.take_letter", defArgs s_letter, defBody s_letter, defScope s_letter, [], []⟩
def d_plain : He.DefD := ⟨("TreeReading", some "take_plain"), "take_plain", "TreeReading.take_plain", defArgs s_plain, defBody s_plain, defScope s_plain, [], []⟩
def d_t_take : He.DefD := ⟨("TreeReading", some "take"), "take", "TreeReading.take", defArgs s_t_take, defBody s_t_take, defScope s_t_take, [], []⟩
def fnL : List He.DefD := [d_is_number, d_within, d_is_cell, d_are_cells, d_tree_of, d_l_begun, d_l_mixed, d_l_take, d_l_pick, d_l_caught, d_l_tree_cells, d_l_leaf, d_l_tree, d_l_part_in, d_l_whole_tree, d_l_goes_on, d_l_wrong_cell, d_law, d_init, d_put, d_digit, d_letter, d_plain, d_t_take]
def faL : List He.Fa := [.glo "is_number", .glo "within", .glo "is_cell", .glo "are_cells", .glo "tree_of", .glo "_law_begun", .glo "_law_mixed", .glo "_law_take", .glo "_law_pick", .glo "_law_caught", .glo "_law_tree_cells", .glo "_law_leaf", .glo "_law_tree", .glo "_law_part_in", .glo "_law_whole_tree", .glo "_law_goes_on", .glo "_law_wrong_cell", .glo "law", .glo "LinkError", .glo "BadCells", .glo "BadFile", .glo "TreeReading", .free "isinstance", .free "int", .free "bool", .free "str", .free "tuple", .free "list", .free "len", .free "zip", .free "range", .free "divmod", .free "abs", .free "min", .free "all", .free "super", .exc "BadCells", .exm "BadCells" "LinkError" true, .exm "BadFile" "LinkError" true, .free "repr", .free "enumerate", .cls "TreeReading", .mkr "TreeReading", .noat "TreeReading" "whole", .noat "TreeReading" "begun", .noat "TreeReading" "word", .noat "TreeReading" "digits", .meth "TreeReading" "put", .meth "TreeReading" "take_digit", .meth "TreeReading" "take_letter", .meth "TreeReading" "take_plain", .meth "TreeReading" "take", .int "MOST_TUPLES" 12, .int "MOST_LETTERS" 8, .int "MOST_DIGITS" 3, .int "BEGIN" 27, .int "END" 28, .int "NONE" 29, .int "FALSE" 30, .int "TRUE" 31, .int "EMPTY" 32, .int "NUMBER" 59, .int "MARK" 32, .str "LETTERS" "abcdefghijklmnopqrstuvwxyz"]
def tfL : List He.Defn := [("are_cells", none), ("law", none)]
def tsL : List He.Tab := []
def z_BadFile : KbAt.Ps := ⟨⟨9, 8, 9, 13⟩, ⟨9, 8, 9, 15⟩, ⟨9, 8, 9, 24⟩, ⟨9, 27, 9, 30⟩, ⟨9, 31, 9, 33⟩, ⟨9, 30, 9, 34⟩, ⟨9, 25, 9, 35⟩, ⟨9, 8, 9, 36⟩, ⟨9, 8, 9, 36⟩, ⟨10, 8, 10, 12⟩, ⟨10, 8, 10, 15⟩, ⟨10, 18, 10, 20⟩, ⟨10, 8, 10, 20⟩, ⟨8, 17, 8, 21⟩, ⟨8, 23, 8, 25⟩⟩
def msL : List (Str × Option Str) := [("BadFile", some "__init__")]
def mvL : List KbHk.FnC := [some ("__init__", "BadFile.__init__", KbAt.prm z_BadFile, .stmts [KbAt.s1 z_BadFile, KbAt.s2 z_BadFile], KbAt.sco, mainGlobals, builtinsNs)]
def excB (K : PySem.W.Frag) (C : Addr) : Bool := He.eqO (PySem.W.findIn K (.ref C) "__getattribute__") (some (some (.builtin "BaseException.__getattribute__"))) && (He.eqO (PySem.W.findIn K (.ref C) "__getattr__") (some none) && (PySem.W.hasDictIn K C && (He.eqO (PySem.W.findIn K (.ref C) "__class__") (some (some (.builtin "object.__class__"))) &&
  (He.eqO (PySem.W.specialIn K (.builtin "object.__class__") "__get__") (some (some (.builtin "getset_descriptor.__get__"))) && (decide (PySem.W.takesIn K (.builtin "object.__class__") = some true) && decide (PySem.W.mroIn K C (.type "object") = some true))))))
def exL (K : PySem.W.Frag) : Bool := excB K (He.ga K "BadCells") && (excB K (He.ga K "BadFile") && (KbHk.atB K PySem.Challenge.pw_onebase_k18_whole_the_first_wrong_cell.main.file "BadFile.__init__" (He.ga K "BadFile") (He.fAd K ("BadFile", some "__init__")) && (!((He.cT K ("are_cells", none)).2 == (He.cT K ("law", none)).2))))
abbrev hk : PySem.W.Hook := KbHk.hookM 5 faL fnL tsL tfL exL msL mvL
theorem code_of_fun {K : PySem.W.Frag} {x q : Str} {st : Stmt} {p : Str × Option Str} {fd : FuncData} (F : Fun K x q st (He.fAd K p) fd) : fd.code = .ref (He.codeOf K p) := by
  obtain ⟨oc, od, kV, doc, pm, an, cdv, ct, osl, rfl, lk, hcd⟩ := F.ex
  obtain ⟨c, rfl⟩ := He.codeIn_ref hcd
  have := He.codeOf_eq lk (c := c) rfl
  rw [this] <;> rfl
theorem exc_of {K : PySem.W.Frag} {C : Addr} (h : excB K C = true) (hs : PySem.W.subIn K (.ref C) (.type "BaseException") = some true) : ExcC K C := by
  unfold excB at h
  obtain ⟨h1, h⟩ := Bool.and_eq_true_iff.mp h
  obtain ⟨h2, h⟩ := Bool.and_eq_true_iff.mp h
  obtain ⟨h3, h⟩ := Bool.and_eq_true_iff.mp h
  obtain ⟨h4, h⟩ := Bool.and_eq_true_iff.mp h
  obtain ⟨h5, h⟩ := Bool.and_eq_true_iff.mp h
  obtain ⟨h6, h7⟩ := Bool.and_eq_true_iff.mp h
  exact ⟨He.eqO_ok h1, He.eqO_ok h2, hs, h3, He.eqO_ok h4, He.eqO_ok h5, of_decide_eq_true h6, of_decide_eq_true h7⟩
theorem all_mk {w : World} {h : Heap} {mg : Str → Option Value} {fa : Addr} {K : PySem.W.Frag} (KX : K.In h) (G : h.Ns mainGlobals mg) (c : He.SaysX faL fnL tsL tfL exL w h K) (cm : msL.map (KbHk.fnC K) = mvL) (hfa : mg "law" = some (.ref fa)) :
    ∃ fd : FuncData, (∀ (s : Shared) (v : Value), BindsTo s fd ⟨[v], []⟩ [("script", v)]) ∧ ∀ base : Heap, K.In base → base.Ns mainGlobals mg → (∀ p ∈ tfL.map (He.cT K), LamX.TabB base mg p.1 p.2) →
      KbRp.RunG (PySem.Challenge.rw_onebase_k18_whole_the_first_wrong_cell).prog w K mg base 50 fa fd ["script"] (spLaw K (He.cT K ("are_cells", none)).2 (He.cT K ("law", none)).2) := by
  have cd := c.t.d
  obtain ⟨fd_is_number, FD_is_number⟩ := cd.def_ 0 (d := d_is_number) rfl
  have F_is_number : Fun K "is_number" "is_number" s_is_number (He.ga K "is_number") fd_is_number := toFun FD_is_number
  have b_is_number : Binds K fd_is_number ["thing"] [] := F_is_number.binds (ps := ["thing"]) fun _ _ _ _ _ _ us hl => match us, hl with | [_], _ => rfl
  have g_is_number := He.glo_ok KX G (cd.fact 0 (f := .glo "is_number") rfl)
  obtain ⟨fd_within, FD_within⟩ := cd.def_ 1 (d := d_within) rfl
  have F_within : Fun K "within" "within" s_within (He.ga K "within") fd_within := toFun FD_within
  have b_within : Binds K fd_within ["thing", "low", "high"] [] := F_within.binds (ps := ["thing", "low", "high"]) fun _ _ _ _ _ _ us hl => match us, hl with | [_, _, _], _ => rfl
  have g_within := He.glo_ok KX G (cd.fact 1 (f := .glo "within") rfl)
  obtain ⟨fd_is_cell, FD_is_cell⟩ := cd.def_ 2 (d := d_is_cell) rfl
  have F_is_cell : Fun K "is_cell" "is_cell" s_is_cell (He.ga K "is_cell") fd_is_cell := toFun FD_is_cell
  have b_is_cell : Binds K fd_is_cell ["thing"] [] := F_is_cell.binds (ps := ["thing"]) fun _ _ _ _ _ _ us hl => match us, hl with | [_], _ => rfl
  have g_is_cell := He.glo_ok KX G (cd.fact 2 (f := .glo "is_cell") rfl)
  obtain ⟨fd_are_cells, FD_are_cells⟩ := cd.def_ 3 (d := d_are_cells) rfl
  have F_are_cells : Fun K "are_cells" "are_cells" s_are_cells (He.ga K "are_cells") fd_are_cells := toFun FD_are_cells
  have b_are_cells : Binds K fd_are_cells ["thing"] [] := F_are_cells.binds (ps := ["thing"]) fun _ _ _ _ _ _ us hl => match us, hl with | [_], _ => rfl
  have g_are_cells := He.glo_ok KX G (cd.fact 3 (f := .glo "are_cells") rfl)
  obtain ⟨fd_tree_of, FD_tree_of⟩ := cd.def_ 4 (d := d_tree_of) rfl
  have F_tree_of : Fun K "tree_of" "tree_of" s_tree_of (He.ga K "tree_of") fd_tree_of := toFun FD_tree_of
  have b_tree_of : Binds K fd_tree_of ["cells"] [] := F_tree_of.binds (ps := ["cells"]) fun _ _ _ _ _ _ us hl => match us, hl with | [_], _ => rfl
  have g_tree_of := He.glo_ok KX G (cd.fact 4 (f := .glo "tree_of") rfl)
  obtain ⟨fd_l_begun, FD_l_begun⟩ := cd.def_ 5 (d := d_l_begun) rfl
  have F_l_begun : Fun K "_law_begun" "_law_begun" s_l_begun (He.ga K "_law_begun") fd_l_begun := toFun FD_l_begun
  have b_l_begun : Binds K fd_l_begun ["script"] [] := F_l_begun.binds (ps := ["script"]) fun _ _ _ _ _ _ us hl => match us, hl with | [_], _ => rfl
  have g_l_begun := He.glo_ok KX G (cd.fact 5 (f := .glo "_law_begun") rfl)
  obtain ⟨fd_l_mixed, FD_l_mixed⟩ := cd.def_ 6 (d := d_l_mixed) rfl
  have F_l_mixed : Fun K "_law_mixed" "_law_mixed" s_l_mixed (He.ga K "_law_mixed") fd_l_mixed := toFun FD_l_mixed
  have b_l_mixed : Binds K fd_l_mixed ["draw"] [] := F_l_mixed.binds (ps := ["draw"]) fun _ _ _ _ _ _ us hl => match us, hl with | [_], _ => rfl
  have g_l_mixed := He.glo_ok KX G (cd.fact 6 (f := .glo "_law_mixed") rfl)
  obtain ⟨fd_l_take, FD_l_take⟩ := cd.def_ 7 (d := d_l_take) rfl
  have F_l_take : Fun K "_law_take" "_law_take" s_l_take (He.ga K "_law_take") fd_l_take := toFun FD_l_take
  have b_l_take : Binds K fd_l_take ["draw", "many"] [] := F_l_take.binds (ps := ["draw", "many"]) fun _ _ _ _ _ _ us hl => match us, hl with | [_, _], _ => rfl
  have g_l_take := He.glo_ok KX G (cd.fact 7 (f := .glo "_law_take") rfl)
  obtain ⟨fd_l_pick, FD_l_pick⟩ := cd.def_ 8 (d := d_l_pick) rfl
  have F_l_pick : Fun K "_law_pick" "_law_pick" s_l_pick (He.ga K "_law_pick") fd_l_pick := toFun FD_l_pick
  have b_l_pick : Binds K fd_l_pick ["draw", "some"] [] := F_l_pick.binds (ps := ["draw", "some"]) fun _ _ _ _ _ _ us hl => match us, hl with | [_, _], _ => rfl
  have g_l_pick := He.glo_ok KX G (cd.fact 8 (f := .glo "_law_pick") rfl)
  obtain ⟨fd_l_caught, FD_l_caught⟩ := cd.def_ 9 (d := d_l_caught) rfl
  have F_l_caught : Fun K "_law_caught" "_law_caught" s_l_caught (He.ga K "_law_caught") fd_l_caught := toFun FD_l_caught
  have b_l_caught : Binds K fd_l_caught ["act"] [] := F_l_caught.binds (ps := ["act"]) fun _ _ _ _ _ _ us hl => match us, hl with | [_], _ => rfl
  have g_l_caught := He.glo_ok KX G (cd.fact 9 (f := .glo "_law_caught") rfl)
  obtain ⟨fd_l_tree_cells, FD_l_tree_cells⟩ := cd.def_ 10 (d := d_l_tree_cells) rfl
  have F_l_tree_cells : Fun K "_law_tree_cells" "_law_tree_cells" s_l_tree_cells (He.ga K "_law_tree_cells") fd_l_tree_cells := toFun FD_l_tree_cells
  have b_l_tree_cells : Binds K fd_l_tree_cells ["tree"] [] := F_l_tree_cells.binds (ps := ["tree"]) fun _ _ _ _ _ _ us hl => match us, hl with | [_], _ => rfl
  have g_l_tree_cells := He.glo_ok KX G (cd.fact 10 (f := .glo "_law_tree_cells") rfl)
  obtain ⟨fd_l_leaf, FD_l_leaf⟩ := cd.def_ 11 (d := d_l_leaf) rfl
  have F_l_leaf : Fun K "_law_leaf" "_law_leaf" s_l_leaf (He.ga K "_law_leaf") fd_l_leaf := toFun FD_l_leaf
  have b_l_leaf : Binds K fd_l_leaf ["draw"] [] := F_l_leaf.binds (ps := ["draw"]) fun _ _ _ _ _ _ us hl => match us, hl with | [_], _ => rfl
  have g_l_leaf := He.glo_ok KX G (cd.fact 11 (f := .glo "_law_leaf") rfl)
  obtain ⟨fd_l_tree, FD_l_tree⟩ := cd.def_ 12 (d := d_l_tree) rfl
  have F_l_tree : Fun K "_law_tree" "_law_tree" s_l_tree (He.ga K "_law_tree") fd_l_tree := toFun FD_l_tree
  have b_l_tree : Binds K fd_l_tree ["draw", "deep"] [] := F_l_tree.binds (ps := ["draw", "deep"]) fun _ _ _ _ _ _ us hl => match us, hl with | [_, _], _ => rfl
  have g_l_tree := He.glo_ok KX G (cd.fact 12 (f := .glo "_law_tree") rfl)
  obtain ⟨fd_l_part_in, FD_l_part_in⟩ := cd.def_ 13 (d := d_l_part_in) rfl
  have F_l_part_in : Fun K "_law_part_in" "_law_part_in" s_l_part_in (He.ga K "_law_part_in") fd_l_part_in := toFun FD_l_part_in
  have b_l_part_in : Binds K fd_l_part_in ["cells", "at", "deep"] [] := F_l_part_in.binds (ps := ["cells", "at", "deep"]) fun _ _ _ _ _ _ us hl => match us, hl with | [_, _, _], _ => rfl
  have g_l_part_in := He.glo_ok KX G (cd.fact 13 (f := .glo "_law_part_in") rfl)
  obtain ⟨fd_l_whole_tree, FD_l_whole_tree⟩ := cd.def_ 14 (d := d_l_whole_tree) rfl
  have F_l_whole_tree : Fun K "_law_whole_tree" "_law_whole_tree" s_l_whole_tree (He.ga K "_law_whole_tree") fd_l_whole_tree := toFun FD_l_whole_tree
  have b_l_whole_tree : Binds K fd_l_whole_tree ["cells"] [] := F_l_whole_tree.binds (ps := ["cells"]) fun _ _ _ _ _ _ us hl => match us, hl with | [_], _ => rfl
  have g_l_whole_tree := He.glo_ok KX G (cd.fact 14 (f := .glo "_law_whole_tree") rfl)
  obtain ⟨fd_l_goes_on, FD_l_goes_on⟩ := cd.def_ 15 (d := d_l_goes_on) rfl
  have F_l_goes_on : Fun K "_law_goes_on" "_law_goes_on" s_l_goes_on (He.ga K "_law_goes_on") fd_l_goes_on := toFun FD_l_goes_on
  have b_l_goes_on : Binds K fd_l_goes_on ["cells"] [] := F_l_goes_on.binds (ps := ["cells"]) fun _ _ _ _ _ _ us hl => match us, hl with | [_], _ => rfl
  have g_l_goes_on := He.glo_ok KX G (cd.fact 15 (f := .glo "_law_goes_on") rfl)
  obtain ⟨fd_l_wrong_cell, FD_l_wrong_cell⟩ := cd.def_ 16 (d := d_l_wrong_cell) rfl
  have F_l_wrong_cell : Fun K "_law_wrong_cell" "_law_wrong_cell" s_l_wrong_cell (He.ga K "_law_wrong_cell") fd_l_wrong_cell := toFun FD_l_wrong_cell
  have b_l_wrong_cell : Binds K fd_l_wrong_cell ["cells"] [] := F_l_wrong_cell.binds (ps := ["cells"]) fun _ _ _ _ _ _ us hl => match us, hl with | [_], _ => rfl
  have g_l_wrong_cell := He.glo_ok KX G (cd.fact 16 (f := .glo "_law_wrong_cell") rfl)
  obtain ⟨fd_law, FD_law⟩ := cd.def_ 17 (d := d_law) rfl
  have F_law : Fun K "law" "law" s_law (He.ga K "law") fd_law := toFun FD_law
  have b_law : Binds K fd_law ["script"] [] := F_law.binds (ps := ["script"]) fun _ _ _ _ _ _ us hl => match us, hl with | [_], _ => rfl
  have g_law := He.glo_ok KX G (cd.fact 17 (f := .glo "law") rfl)
  obtain ⟨fd_init, FD_init⟩ := cd.def_ 18 (d := d_init) rfl
  have F_init : Fun K "__init__" "TreeReading.__init__" s_init (He.ma K (He.ga K "TreeReading") "__init__") fd_init := toFun FD_init
  have b_init : Binds K fd_init ["self"] [] := F_init.binds (ps := ["self"]) fun _ _ _ _ _ _ us hl => match us, hl with | [_], _ => rfl
  have M_init := He.mkr_ok (cd.fact 42 (f := .mkr "TreeReading") rfl)
  obtain ⟨fd_put, FD_put⟩ := cd.def_ 19 (d := d_put) rfl
  have F_put : Fun K "put" "TreeReading.put" s_put (He.ma K (He.ga K "TreeReading") "put") fd_put := toFun FD_put
  have b_put : Binds K fd_put ["self", "tree"] [] := F_put.binds (ps := ["self", "tree"]) fun _ _ _ _ _ _ us hl => match us, hl with | [_, _], _ => rfl
  have M_put := He.meth_ok (cd.fact 47 (f := .meth "TreeReading" "put") rfl)
  obtain ⟨fd_digit, FD_digit⟩ := cd.def_ 20 (d := d_digit) rfl
  have F_digit : Fun K "take_digit" "TreeReading.take_digit" s_digit (He.ma K (He.ga K "TreeReading") "take_digit") fd_digit := toFun FD_digit
  have b_digit : Binds K fd_digit ["self", "cell"] [] := F_digit.binds (ps := ["self", "cell"]) fun _ _ _ _ _ _ us hl => match us, hl with | [_, _], _ => rfl
  have M_digit := He.meth_ok (cd.fact 48 (f := .meth "TreeReading" "take_digit") rfl)
  obtain ⟨fd_letter, FD_letter⟩ := cd.def_ 21 (d := d_letter) rfl
  have F_letter : Fun K "take_letter" "TreeReading.take_letter" s_letter (He.ma K (He.ga K "TreeReading") "take_letter") fd_letter := toFun FD_letter
  have b_letter : Binds K fd_letter ["self", "cell"] [] := F_letter.binds (ps := ["self", "cell"]) fun _ _ _ _ _ _ us hl => match us, hl with | [_, _], _ => rfl
  have M_letter := He.meth_ok (cd.fact 49 (f := .meth "TreeReading" "take_letter") rfl)
  obtain ⟨fd_plain, FD_plain⟩ := cd.def_ 22 (d := d_plain) rfl
  have F_plain : Fun K "take_plain" "TreeReading.take_plain" s_plain (He.ma K (He.ga K "TreeReading") "take_plain") fd_plain := toFun FD_plain
  have b_plain : Binds K fd_plain ["self", "cell"] [] := F_plain.binds (ps := ["self", "cell"]) fun _ _ _ _ _ _ us hl => match us, hl with | [_, _], _ => rfl
  have M_plain := He.meth_ok (cd.fact 50 (f := .meth "TreeReading" "take_plain") rfl)
  obtain ⟨fd_t_take, FD_t_take⟩ := cd.def_ 23 (d := d_t_take) rfl
  have F_t_take : Fun K "take" "TreeReading.take" s_t_take (He.ma K (He.ga K "TreeReading") "take") fd_t_take := toFun FD_t_take
  have b_t_take : Binds K fd_t_take ["self", "cell"] [] := F_t_take.binds (ps := ["self", "cell"]) fun _ _ _ _ _ _ us hl => match us, hl with | [_, _], _ => rfl
  have M_t_take := He.meth_ok (cd.fact 51 (f := .meth "TreeReading" "take") rfl)
  have R_TreeReading : Rc K (He.ga K "TreeReading") := ⟨He.cls_ok (cd.fact 41 (f := .cls "TreeReading") rfl), He.noat_ok (cd.fact 43 (f := .noat "TreeReading" "whole") rfl), He.noat_ok (cd.fact 44 (f := .noat "TreeReading" "begun") rfl), He.noat_ok (cd.fact 45 (f := .noat "TreeReading" "word") rfl), He.noat_ok (cd.fact 46 (f := .noat "TreeReading" "digits") rfl)⟩
  have fr_repr := He.free_ok KX G (cd.fact 39 (f := .free "repr") rfl)
  have fr_enumerate := He.free_ok KX G (cd.fact 40 (f := .free "enumerate") rfl)
  have GN : Gn mg := ⟨He.int_ok KX G (cd.fact 52 (f := .int "MOST_TUPLES" 12) rfl), He.int_ok KX G (cd.fact 53 (f := .int "MOST_LETTERS" 8) rfl), He.int_ok KX G (cd.fact 54 (f := .int "MOST_DIGITS" 3) rfl), He.str_ok KX G (cd.fact 63 (f := .str "LETTERS" "abcdefghijklmnopqrstuvwxyz") rfl), He.int_ok KX G (cd.fact 55 (f := .int "BEGIN" 27) rfl), He.int_ok KX G (cd.fact 56 (f := .int "END" 28) rfl), He.int_ok KX G (cd.fact 57 (f := .int "NONE" 29) rfl), He.int_ok KX G (cd.fact 58 (f := .int "FALSE" 30) rfl), He.int_ok KX G (cd.fact 59 (f := .int "TRUE" 31) rfl), He.int_ok KX G (cd.fact 60 (f := .int "EMPTY" 32) rfl), He.int_ok KX G (cd.fact 61 (f := .int "NUMBER" 59) rfl), He.int_ok KX G (cd.fact 62 (f := .int "MARK" 32) rfl)⟩
  have g_LinkError := He.glo_ok KX G (cd.fact 18 (f := .glo "LinkError") rfl)
  have g_BadCells := He.glo_ok KX G (cd.fact 19 (f := .glo "BadCells") rfl)
  have g_BadFile := He.glo_ok KX G (cd.fact 20 (f := .glo "BadFile") rfl)
  have g_TreeReading := He.glo_ok KX G (cd.fact 21 (f := .glo "TreeReading") rfl)
  have T : Bi mg := ⟨He.free_ok KX G (cd.fact 22 (f := .free "isinstance") rfl), He.free_ok KX G (cd.fact 23 (f := .free "int") rfl), He.free_ok KX G (cd.fact 24 (f := .free "bool") rfl), He.free_ok KX G (cd.fact 25 (f := .free "str") rfl), He.free_ok KX G (cd.fact 26 (f := .free "tuple") rfl), He.free_ok KX G (cd.fact 27 (f := .free "list") rfl), He.free_ok KX G (cd.fact 28 (f := .free "len") rfl), He.free_ok KX G (cd.fact 29 (f := .free "zip") rfl), He.free_ok KX G (cd.fact 30 (f := .free "range") rfl), He.free_ok KX G (cd.fact 31 (f := .free "divmod") rfl), He.free_ok KX G (cd.fact 32 (f := .free "abs") rfl), He.free_ok KX G (cd.fact 33 (f := .free "min") rfl), He.free_ok KX G (cd.fact 34 (f := .free "all") rfl)⟩
  have gs := He.free_ok KX G (cd.fact 35 (f := .free "super") rfl)
  have m_BadFile : PySem.W.exmOne K (.ref (He.ga K "BadFile")) (.ref (He.ga K "LinkError")) = some true := of_decide_eq_true (cd.fact 38 (f := .exm "BadFile" "LinkError" true) rfl)
  obtain ⟨e1_BadCells, e2_BadCells, e3_BadCells, e4_BadCells⟩ := He.exc_ok (cd.fact 36 (f := .exc "BadCells") rfl)
  have E_BadCells : Ec K mg "BadCells" (He.ga K "BadCells") := ⟨e1_BadCells, g_BadCells, e2_BadCells, e3_BadCells, e4_BadCells⟩
  have m_BadCells : PySem.W.exmOne K (.ref (He.ga K "BadCells")) (.ref (He.ga K "LinkError")) = some true := of_decide_eq_true (cd.fact 37 (f := .exm "BadCells" "LinkError" true) rfl)
  have cx0 := show exL K = true from c.more
  obtain ⟨x0, cx1⟩ := Bool.and_eq_true_iff.mp cx0
  obtain ⟨x1, cx2⟩ := Bool.and_eq_true_iff.mp cx1
  obtain ⟨x2, cx3⟩ := Bool.and_eq_true_iff.mp cx2
  have x3 := cx3
  have X_BadCells := exc_of x0 e3_BadCells
  obtain ⟨cc_BadFile, cda_BadFile, AT_BadFile⟩ := KbHk.txt_of (P := (PySem.Challenge.rw_onebase_k18_whole_the_first_wrong_cell).prog) (p := ("BadFile", some "__init__")) (q := "BadFile.__init__") (z := z_BadFile) x2 (by have y := congrArg (fun l => l[0]?) cm; simpa [msL, mvL] using y) (by decide) (by first | rfl | decide +kernel)
  have X_BadFile := exc_of x1 AT_BadFile.exC
  have n12 : (He.cT K ("are_cells", none)).2 ≠ (He.cT K ("law", none)).2 := by simpa using x3
  have c_are_cells : fd_are_cells.code = .ref (He.codeOf K ("are_cells", none)) := code_of_fun (p := ("are_cells", none)) F_are_cells
  have c_law : fd_law.code = .ref (He.codeOf K ("law", none)) := code_of_fun (p := ("law", none)) F_law
  have e := hfa.symm.trans g_law
  cases e
  refine ⟨fd_law, fun s v => FD_law.bindsA (ps := ["script"]) (fun _ _ _ _ _ _ us hl => match us, hl with | [_], _ => rfl) s [v] rfl, fun base KB GB TB => ?_⟩
  have tb1 := TB (He.cT K ("are_cells", none)) (List.mem_map_of_mem (by simp [tfL]))
  have tb2 := TB (He.cT K ("law", none)) (List.mem_map_of_mem (by simp [tfL]))
  have q_num : FnOk (PySem.Challenge.rw_onebase_k18_whole_the_first_wrong_cell).prog w K mg base CX0 1 _ fd_is_number ["thing"] spNum := ok_is_number (k := 0) F_is_number T
  have q_within : FnOk (PySem.Challenge.rw_onebase_k18_whole_the_first_wrong_cell).prog w K mg base CX0 2 _ fd_within ["thing", "low", "high"] spWithin := ok_within (k := 0) F_within F_is_number b_is_number g_is_number q_num
  have q_cell : FnOk (PySem.Challenge.rw_onebase_k18_whole_the_first_wrong_cell).prog w K mg base CX0 3 _ fd_is_cell ["thing"] spCell := ok_is_cell (k := 0) F_is_cell F_within b_within g_within q_within
  have q_cells : FnOk (PySem.Challenge.rw_onebase_k18_whole_the_first_wrong_cell).prog w K mg base CX0 7 _ fd_are_cells ["thing"] (spAreCells (He.cT K ("are_cells", none)).2) := ok_are_cells (k := 0) F_are_cells T c_are_cells ⟨tb1.code, tb1.bm, tb1.gP⟩ F_is_cell b_is_cell g_is_cell q_cell
  have q_init : FnOk (PySem.Challenge.rw_onebase_k18_whole_the_first_wrong_cell).prog w K mg base CX0 1 _ fd_init ["self"] (spInit (He.ga K "TreeReading")) := ok_init (k := 0) F_init R_TreeReading
  have q_put : FnOk (PySem.Challenge.rw_onebase_k18_whole_the_first_wrong_cell).prog w K mg base CX0 1 _ fd_put ["self", "tree"] (spPut (He.ga K "TreeReading")) := ok_put (k := 0) F_put R_TreeReading
  have q_digit : FnOk (PySem.Challenge.rw_onebase_k18_whole_the_first_wrong_cell).prog w K mg base CX0 2 _ fd_digit ["self", "cell"] (spStep (He.ga K "TreeReading") (fun s _ => ∃ ns, s.digits = some ns ∧ ns.length ≤ 2) digF) := ok_digit (k := 0) F_digit R_TreeReading GN T M_put b_put q_put
  have q_letter : FnOk (PySem.Challenge.rw_onebase_k18_whole_the_first_wrong_cell).prog w K mg base CX0 2 _ fd_letter ["self", "cell"] (spStep (He.ga K "TreeReading") (fun s c => isLetter c = true ∧ s.digits = none) stepLetter) := ok_letter (k := 0) F_letter R_TreeReading GN T M_put b_put q_put
  have q_plain : FnOk (PySem.Challenge.rw_onebase_k18_whole_the_first_wrong_cell).prog w K mg base CX0 2 _ fd_plain ["self", "cell"] (spStep (He.ga K "TreeReading") (fun _ _ => True) stepPlain) := ok_plain (k := 0) F_plain R_TreeReading GN M_put b_put q_put
  have q_rtake : FnOk (PySem.Challenge.rw_onebase_k18_whole_the_first_wrong_cell).prog w K mg base CX0 3 _ fd_t_take ["self", "cell"] (spStep (He.ga K "TreeReading") (fun s _ => Ok s) step) := ok_rtake (k := 0) F_t_take R_TreeReading GN T M_put b_put q_put M_digit b_digit q_digit M_letter b_letter q_letter M_plain b_plain q_plain
  have q_of : FnOk (PySem.Challenge.rw_onebase_k18_whole_the_first_wrong_cell).prog w K mg base (L2.CX (PySem.Challenge.rw_onebase_k18_whole_the_first_wrong_cell).prog w) 8 _ fd_tree_of ["cells"] (spTreeOf (He.cT K ("are_cells", none)).2 (He.ga K "BadCells") (He.ga K "BadFile")) := ok_tree_of (k := 0) F_tree_of T fr_enumerate E_BadCells AT_BadFile g_BadFile gs F_are_cells b_are_cells g_are_cells q_cells R_TreeReading M_init g_TreeReading b_init q_init M_t_take b_t_take q_rtake
  have q_begun : FnOk (PySem.Challenge.rw_onebase_k18_whole_the_first_wrong_cell).prog w K mg base CX0 1 _ fd_l_begun ["script"] (spBegun K) := ok_begun (k := 0) F_l_begun T
  have q_mixed : FnOk (PySem.Challenge.rw_onebase_k18_whole_the_first_wrong_cell).prog w K mg base CX0 1 _ fd_l_mixed ["draw"] spMixed := ok_mixed (k := 0) F_l_mixed T
  have q_take : FnOk (PySem.Challenge.rw_onebase_k18_whole_the_first_wrong_cell).prog w K mg base CX0 2 _ fd_l_take ["draw", "many"] spTake := ok_take (k := 0) F_l_take T F_l_mixed b_l_mixed g_l_mixed q_mixed
  have q_pick : FnOk (PySem.Challenge.rw_onebase_k18_whole_the_first_wrong_cell).prog w K mg base CX0 3 _ fd_l_pick ["draw", "some"] (spPick K) := ok_pick (k := 0) F_l_pick T F_l_take b_l_take g_l_take q_take
  have q_ltc : FnOk (PySem.Challenge.rw_onebase_k18_whole_the_first_wrong_cell).prog w K mg base CX0 13 _ fd_l_tree_cells ["tree"] (spLTC 12) := ok_ltc (k := 0) F_l_tree_cells T b_l_tree_cells g_l_tree_cells 12
  have q_leaf : FnOk (PySem.Challenge.rw_onebase_k18_whole_the_first_wrong_cell).prog w K mg base CX0 4 _ fd_l_leaf ["draw"] spLeaf := ok_leaf (k := 0) F_l_leaf T F_l_take b_l_take g_l_take q_take F_l_pick b_l_pick g_l_pick q_pick
  have q_tree : FnOk (PySem.Challenge.rw_onebase_k18_whole_the_first_wrong_cell).prog w K mg base CX0 17 _ fd_l_tree ["draw", "deep"] (spTree 12) := ok_tree (k := 0) F_l_tree T b_l_tree g_l_tree F_l_take b_l_take g_l_take q_take F_l_pick b_l_pick g_l_pick q_pick F_l_leaf b_l_leaf g_l_leaf q_leaf 12
  have q_part : FnOk (PySem.Challenge.rw_onebase_k18_whole_the_first_wrong_cell).prog w K mg base CX0 13 _ fd_l_part_in ["cells", "at", "deep"] (spPartIn 12) := ok_part (k := 0) F_l_part_in T b_l_part_in g_l_part_in 12
  have q_whole : FnOk (PySem.Challenge.rw_onebase_k18_whole_the_first_wrong_cell).prog w K mg base CX0 14 _ fd_l_whole_tree ["cells"] spWhole := ok_whole (k := 0) F_l_whole_tree T F_l_part_in b_l_part_in g_l_part_in q_part
  have q_goes : FnOk (PySem.Challenge.rw_onebase_k18_whole_the_first_wrong_cell).prog w K mg base CX0 15 _ fd_l_goes_on ["cells"] spGoes := ok_goes (k := 0) F_l_goes_on T F_l_whole_tree b_l_whole_tree g_l_whole_tree q_whole
  have q_wrong : FnOk (PySem.Challenge.rw_onebase_k18_whole_the_first_wrong_cell).prog w K mg base CX0 16 _ fd_l_wrong_cell ["cells"] spWrong := ok_wrong (k := 0) F_l_wrong_cell T F_l_goes_on b_l_goes_on g_l_goes_on q_goes
  exact ok_law F_law T fr_repr c_law tb2 g_BadCells g_BadFile X_BadCells X_BadFile AT_BadFile.noN g_LinkError m_BadCells m_BadFile F_l_begun b_l_begun g_l_begun (q_begun.mono (by decide)) F_l_take b_l_take g_l_take (q_take.mono (by decide)) F_l_pick b_l_pick g_l_pick (q_pick.mono (by decide)) F_l_tree b_l_tree g_l_tree (q_tree.mono (by decide)) F_l_tree_cells b_l_tree_cells g_l_tree_cells (q_ltc.mono (by decide)) F_l_whole_tree b_l_whole_tree g_l_whole_tree (q_whole.mono (by decide)) F_l_wrong_cell b_l_wrong_cell g_l_wrong_cell (q_wrong.mono (by decide)) F_tree_of b_tree_of g_tree_of (q_of.mono (by decide)) F_l_caught b_l_caught g_l_caught
theorem tabs_ne {w : World} {h : Heap} {K : PySem.W.Frag} (c : He.SaysX faL fnL tsL tfL exL w h K) : (He.cT K ("are_cells", none)).2 ≠ (He.cT K ("law", none)).2 := by
  have cx0 := show exL K = true from c.more
  obtain ⟨x0, cx1⟩ := Bool.and_eq_true_iff.mp cx0
  obtain ⟨x1, cx2⟩ := Bool.and_eq_true_iff.mp cx1
  obtain ⟨x2, cx3⟩ := Bool.and_eq_true_iff.mp cx2
  have x3 := cx3
  exact (by simpa using x3)
theorem tab0G {H : Hp} {P : Addr} (h : H P = some (.tbl #[])) : GxR.TabG H P := ⟨#[], h, trivial⟩
theorem tab0S {H : Hp} {P : Addr} {q : Str} (h : H P = some (.tbl #[])) : LamX.TabS H P q := ⟨#[], h, trivial, fun _ _ z => by cases z⟩
end K18
set_option Elab.async false
set_option linter.all false
set_option maxRecDepth 100000
open PySem PySem.W PySem.Calls PyProof.Rows
set_option maxHeartbeats 0 in
theorem PySem.Challenge.cw_onebase_k18_whole_the_first_wrong_cell_holds : PySem.Challenge.rw_onebase_k18_whole_the_first_wrong_cell.Holds := by
  w_on; o_law; o_head (K18.hk); (case hw => w_witness2)
  k_fill
  refine KbRp.walkG (l := PySem.Challenge.rw_onebase_k18_whole_the_first_wrong_cell) (n := 63) (k := 50) (x := "script") rfl (by decide) rfl ⟨rfl, by decide, by decide⟩ ?F
  case F =>
    intro w mg fa h Y G hmg
    obtain ⟨K, KX, c, cm⟩ := Y
    obtain ⟨fd, hb, hF⟩ := K18.all_mk (w := w) KX G c cm hmg
    refine ⟨K, KX, fd, K18.tfL.map (He.cT K), _, ⟨fun p hp => ?_, fun p hp => ?_, fun p hp => ?_⟩, hb, fun H a ns hl _ hT hS => ?_, hF⟩
    · obtain ⟨q, hq, rfl⟩ := List.mem_map.mp hp
      exact c.empty q hq
    · obtain ⟨q, hq, rfl⟩ := List.mem_map.mp hp
      exact c.out q hq
    · obtain ⟨q, hq, rfl⟩ := List.mem_map.mp hp
      exact PySem.W.codeHd_of_K KX (c.hd q hq)
    · have n12 := K18.tabs_ne c
      exact ⟨a, ns, rfl, hS, hl, K18.tab0G (hT _ (List.mem_map_of_mem (by simp [K18.tfL]))), K18.tab0S (hT _ (List.mem_map_of_mem (by simp [K18.tfL]))), n12, fun _ => rfl⟩
