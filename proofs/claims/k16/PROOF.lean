import PyProof.Rows.All
import Wide.All
import OpenK.AllK
import Wide.FinOn
import HandS.ForMost
import HandS.ForExc
import HandS.Lambda
import HandS.EndTab
import HandS.IsInst
import HandS.ExcIs
import HandS.Flow
import HandS.Conv
import HandS.Star
import HandS.AnyAll
import HandS.GenList
import KE.GoesNew
import KE.GoesMore
import HandS.Defaults
import HandS.WordsExc
import PyProof.FString
import PyProof.FString4
import KE.KFromBytes
import KE.KExcSuper
import HandS.Base
import HandS.Call
import HandS.Exc
import KE.KExcIs
import HandS.Head0
import HandS.Head1
import HandS.Head2
import HandS.HeadEnd
import HandS.HeadHook1
import HandS.HeadHook2
import HandS.HeadHook3
import HandS.HeadHook4
import HandS.HeadWalk
import HandS.NestedK
import HandS.TupAny
import HandS.Wide
import HandS.Comp
import HandS.Style
import PySem.Challenge.RW_onebase_k16_whole_cells_parted_one_way
set_option Elab.async false
set_option linter.all false
set_option maxRecDepth 100000
set_option maxHeartbeats 2000000
namespace Kb
open PySem PySem.Spec PyProof.Rows L2
/-- an exception that was caught, held as a value -/
def ExV (cls : Value) (d : Option Addr) (a : Addr) : HO := .ext fun h => ∃ (oe : Obj) (vs : Array Value), h.get? a = some oe ∧ Zc cls d oe ∧ oe.data = .fields vs
theorem exV_ok {P : Program} {w : World} {H : Hp} {h : Heap} {a : Addr} {cls : Value} {d : Option Addr} {oe : Obj} {vs : Array Value} (e : h.get? a = some oe) (z : Zc cls d oe) (hd : oe.data = .fields vs) : ObjOk P w H h a (ExV cls d a) :=
  ⟨⟨oe, vs, e, z, hd⟩, ⟨oe, e⟩, fun _ _ ⟨o, v, q, r⟩ k => ⟨o, v, k o q, r⟩⟩
section
variable {X : Cx} {pins : List (Addr × Obj)} {σ : L2.St} {H : Hp} {s : Shared}
theorem track {a : Addr} {oe : Obj} {cls : Value} {d : Option Addr} {vs : Array Value} (I : Inv X ((a, oe) :: pins) σ H s) (n0 : X.s_0.heap.get? a = none) (hp : ∀ p ∈ X.pn ++ pins, p.1 ≠ a) (hz : Zc cls d oe) (hd : oe.data = .fields vs) :
    Inv X pins σ (upd H a (ExV cls d a)) s := by
  obtain ⟨ea, na, nL, nF, nc⟩ := I.pin (a, oe) (List.mem_append_right _ List.mem_cons_self)
  have ea : s.heap.get? a = some oe := ea
  have na : H a = none := na
  have ne0 : ∀ b o, X.s_0.heap.get? b = some o → b ≠ a := fun b o e z => by rw [z, n0] at e; cases e
  have neT : ∀ b u, H b = some u → b ≠ a := fun b u e z => by rw [z, na] at e; cases e
  refine ⟨I.ok, I.os, I.bare, ⟨I.base.keep, I.base.slot, fun b o e n hx => ?_, I.base.there, fun b xs e => ?_, fun b o u e => ?_, fun b ps e => ?_⟩, I.loc, I.cell, ?_, fun x c e => ?_, fun p hp' => ?_, fun b u e => ?_, I.len⟩
  · rw [upd_ne (ne0 b o e)]
    exact I.base.free b o e n hx
  · have q := I.base.tups b xs e
    rw [upd_ne (neT b _ q)]
    exact q
  · have q := I.base.frzs b o u e
    rw [upd_ne (neT b _ q)]
    exact q
  · obtain ⟨m, q⟩ := I.base.tbls b ps e
    exact ⟨m, by rw [upd_ne (neT b _ q)]; exact q⟩
  · rw [upd_ne (Ne.symm nL)]
    exact I.free
  · have hc : c ≠ a := fun z => by
      obtain ⟨v, o, ho, hv⟩ := I.cell x c e
      rw [z, ea] at ho
      cases ho
      exact nc v hv
    rw [upd_ne hc]
    exact I.freeC x c e
  · obtain ⟨h1, h2, h3, h4, h5⟩ := I.pin p (by
      rcases List.mem_append.mp hp' with z | z
      · exact List.mem_append_left _ z
      · exact List.mem_append_right _ (List.mem_cons_of_mem _ z))
    exact ⟨h1, by rw [upd_ne (hp p hp')]; exact h2, h3, h4, h5⟩
  · by_cases hb : b = a
    · rw [hb, upd_same] at e
      cases e
      rw [hb]
      exact exV_ok ea hz hd
    · rw [upd_ne hb] at e
      exact (I.hok b u e).stay (fun c v _ q => q) (fun c q => by rw [upd_ne (neT c _ q)]; exact q) fun c xs q => by rw [upd_ne (neT c _ q)]; exact q
end
/-- what 'except x as n' wishes of an exception of the body; behind the suite the exception stays known -/
def wKeep (K : PySem.W.Frag) (c : Value) (i : Nat) (ts : Addr → Value → Option Addr → TS) (Wout : WX) (D : Ends) : WX := fun cls d σ H =>
  ∃ b, PySem.W.exmOne K cls c = some b ∧ (b = true → ∀ a, H a = none → ts a cls d { nx := fun σ' H' => D.nx (σ'.set i none) (upd H' a (ExV cls d a)), rt := fun v H' => D.rt v (upd H' a (ExV cls d a)), bk := fun σ' H' => D.bk (σ'.set i none) (upd H' a (ExV cls d a)), ct := fun σ' H' => D.ct (σ'.set i none) (upd H' a (ExV cls d a)) } (σ.set i (some (.ref a))) H) ∧
    (b = false → Wout cls d σ H)
section
variable {X : Cx} {x n : Str} {c : Value} {i : Nat} {body suite : List Stmt} {b₀ : Stmt} {np pos pos' : Pos} {tb : WX → TS} {ts : Addr → Value → Option Addr → TS} {Wout : WX}
theorem ps_try_keep (hex : X.ex = []) (hs : X.stack = X.env :: X.outer) (hf : X.env.frame = some X.env.locals) (hN : X.N.Nodup) (hi : X.N[i]? = some n) (hln : X.env.kindOf n = some .local) (hc : Names X x c) (tk : Takes X Wout)
    (hb : ∀ (W : WX) (pn : List (Addr × Obj)) (xe : Value → Shared → Prop), Takes (X.tr pn xe) W → PassesOwn (model X.prog X.w) X.A X.env xe → PSs (X.tr pn xe) body (tb W))
    (hsu : ∀ (a : Addr) (oe : Obj) (cls : Value) (d : Option Addr) (pn : List (Addr × Obj)), Zc cls d oe → (∃ vs, oe.data = .fields vs) → PSs (X.suite a ((a, oe) :: pn)) (b₀ :: suite) (ts a cls d)) :
    PS X (.Try body [.ExceptHandler (some (.Name x np)) (some n) (b₀ :: suite) pos'] [] [] pos) (fun D σ H => tb (wKeep X.K c i ts Wout D) D σ H) := by
  refine ⟨fun pins s σ H D I h => ?_⟩
  have ok := I.ok
  have hfr : X.A.frames = some (X.env :: X.outer) := by rw [ok.frames, hs]
  have hloc : Loc X.env.scope n := .inl hln
  refine wpAny_Try_except ?_
  refine wpAny_mono ((hb (wKeep X.K c i ts Wout D) (X.pn ++ pins) (fun e s₁ => wpAny (model X.prog X.w) X.A (noteFrame e X.env) (fun _ s₂ => wpAny (model X.prog X.w) X.A (setFlight e none) (fun _ s₃ =>
    wpAny (model X.prog X.w) X.A (handleBy e X.env [.ExceptHandler (some (.Name x np)) (some n) (b₀ :: suite) pos']) (SP X pins D) X.xe s₃) X.xe s₂) X.xe s₁) (fun u s' xx => ?_) PassesOwn.looking).run [] s σ H D (I.toTry _) h) (fun f s1 hsp => ?_) (fun e s1 he => he)
  · -- the catch
    obtain ⟨a, B, sI, pins', σ', H', cls, d, rfl, J', nb, up, sky, na, os, ag, b, hb1, hyes, hno⟩ := xx
    have J : Inv X pins σ' H' sI := J'.ofTry ok
    have sky' : Sky B (X.env :: X.outer) a (Zc cls d) X.env.locals s'.heap := by rw [← hs]; exact sky
    show wpAny (model X.prog X.w) X.A (noteFrame (.ref a) X.env) _ _ _
    refine Sky.land Zc.steady hfr hf sky' fun h3 fl3 up3 => ?_
    have J3 : Inv X pins σ' H' { s' with heap := h3 } := J.landed nb fl3.1 (up.trans up3) os ag
    obtain ⟨oe3, vs3, he3, hz3, hd3⟩ := fl3.there
    have notFr : ∀ {h : Heap} {o : Obj} {vs : Array Value}, h.FunFrames B (X.env :: X.outer) → h.get? a = some o → o.data = .fields vs → a ∉ frs (X.env :: X.outer) := fun {h o vs} ff e dd hm => by
      obtain ⟨_, o', e', hnf⟩ := ff.mem hm
      rw [e] at e'; cases e'
      exact hnf _ dd
    have nfr := notFr fl3.2.2.1 he3 hd3
    have nL : a ≠ X.env.locals := fun z => nfr (List.mem_filterMap.mpr ⟨X.env, List.mem_cons_self, by rw [hf, z]⟩)
    have nF : a ∉ X.fs := fun hm => by
      obtain ⟨e, he, q⟩ := List.mem_filterMap.mp hm
      exact nfr (List.mem_filterMap.mpr ⟨e, List.mem_cons_of_mem _ he, q⟩)
    have nI : sI.heap.get? a = none := by
      cases q : sI.heap.get? a with
      | none => rfl
      | some o =>
        have z := nb a o q (by rw [hs]; exact nfr)
        rw [fl3.2.1] at z
        cases z
    have n0 : X.s_0.heap.get? a = none := by
      cases q : X.s_0.heap.get? a with
      | none => rfl
      | some o =>
        obtain ⟨o', z⟩ := J.base.there a o q (by rw [hex]; exact fun z => nomatch z)
        rw [nI] at z
        cases z
    have hpn : ∀ p ∈ X.pn ++ pins, p.1 ≠ a := fun p hp z => by
      have q := (J.pin p hp).1
      rw [z, nI] at q
      cases q
    have S3 := J3.suite he3 hd3 na nL nF
    refine wpAny_handleBy_cons (codeAny_handlers_test ?_) (by intro q; cases q)
    have LT : PySem.W.Looks (model X.prog X.w) h3 (typeOf (.ref a)) cls := fun A Q E s k q => wpAny_typeOf_ref (k _ _ he3) (by rw [hz3.1]; exact q)
    have LM := PySem.W.exm_one (M := model X.prog X.w) (J3.kIn) LT hb1
    have test : ∀ {Q : Value → Shared → Prop} {E : Value → Shared → Prop}, Q c { s' with heap := h3 } → wpAny (model X.prog X.w) (X.A.mark (some (.ref a))) (eval (.Name x np) X.env) Q E { s' with heap := h3 } := fun {Q E} q => by
      obtain ⟨hg, hdbg, hm | ⟨hm, hv, hnn⟩⟩ := hc
      · exact ld_glob (X := X.suite a ((a, oe3) :: (X.pn ++ pins))) S3 hg hm q hdbg
      · exact ld_blt (X := X.suite a ((a, oe3) :: (X.pn ++ pins))) S3 hg hm hv q hnn hdbg
    refine test (LM.here ?_)
    cases b with
    | true =>
      refine codeAny_handlers_suite_as ?_
      refine HandSPX.lands_againZ fl3 fun h4 fl4 up4 => ?_
      have J4 : Inv X pins σ' H' { s' with heap := h4 } := J.landed nb fl4.1 ((up.trans up3).trans up4) os ag
      obtain ⟨oe4, vs4, he4, hz4, hd4⟩ := fl4.there
      have S4 := J4.suite he4 hd4 na nL nF
      refine store_ok (X := X.suite a ((a, oe4) :: (X.pn ++ pins))) (v := .ref a) S4 hN hi hloc rfl (fun s5 S5 => ?_) (.inr hln)
      refine wpAny_mono ((hsu a oe4 cls d (X.pn ++ pins) hz4 ⟨_, hd4⟩).run [] s5 _ H' _ S5 (hyes rfl a na)) (fun f s6 hsp => ?_) (fun _ _ z => False.elim z)
      have end_ : ∀ {σ6 : L2.St} {H6 : Hp} {Q : Shared → Prop}, Inv (X.suite a ((a, oe4) :: (X.pn ++ pins))) [] σ6 H6 s6 → (∀ s7, Inv X pins (σ6.set i none) (upd H6 a (ExV cls d a)) s7 → Q s7) →
          wpAny (model X.prog X.w) X.A (do bindName X.env n .none; unbindBehindTheSuite X.env n pos') (fun _ s7 => Q s7) X.xe s6 := fun {σ6 H6 Q} S6 hq => by
        have T6 : Inv X ((a, oe4) :: pins) σ6 H6 s6 := (S6.unsuite ok).pins_of fun p hp => by
          rcases List.mem_cons.mp hp with z | z
          · rw [z]
            exact S6.pin (a, oe4) (List.mem_append_left _ List.mem_cons_self)
          · exact S6.pin p (List.mem_append_left _ (List.mem_cons_of_mem _ (List.mem_append_right _ z)))
        exact gone_ok T6 hN hi hln fun s7 J7 => hq s7 (track J7 n0 hpn hz4 hd4)
      cases f with
      | next =>
        obtain ⟨σ6, H6, S6, q6⟩ := hsp
        exact end_ S6 fun s7 J7 => ⟨_, _, J7, q6⟩
      | brk =>
        obtain ⟨σ6, H6, S6, q6⟩ := hsp
        exact end_ S6 fun s7 J7 => ⟨_, _, J7, q6⟩
      | cont =>
        obtain ⟨σ6, H6, S6, q6⟩ := hsp
        exact end_ S6 fun s7 J7 => ⟨_, _, J7, q6⟩
      | ret u =>
        obtain ⟨v6, σ6, H6, S6, r6, q6⟩ := hsp
        exact end_ S6 fun s7 J7 => ⟨_, _, _, J7, r6, q6⟩
    | false =>
      show wpAny _ X.A (handleBy (.ref a) X.env []) _ _ _
      refine wpAny_handleBy_nil ?_
      obtain ⟨k1, k2, k3, oe, vs, T, oT, ts', he, hz, hd, h1, hr⟩ := id fl3
      unfold PySem.passOn
      refine wpAny_bind (wpAny_field he hd h1 ?_)
      rw [if_neg (show ¬ ((Value.ref T == Value.none) = true) from by simp)]
      have fin : wpAny (model X.prog X.w) X.A (setFlight (.ref a) X.env.frame) (fun _ s4 => wpAny (model X.prog X.w) X.A (throw (.ref a) : Sem Flow) (SP X pins D) X.xe s4) X.xe { s' with heap := h3 } := by
        rw [hf]
        refine HandSPX.setFlight_upZ fl3 fun h4 hh4 up4 => wpAny_throw (tk _ _ ?_)
        exact ⟨a, B, sI, pins, σ', H', cls, d, rfl, J, nb, (up.trans up3).trans up4, .inr (.inr (by rw [hs]; exact hh4)), na, os, ag, hno rfl⟩
      first
        | exact wpAny_bind (wpAny_pure (wpAny_bind fin))
        | exact wpAny_bind fin
  · cases f with
    | next =>
      obtain ⟨σ', H', J', q⟩ := hsp
      exact wpAny_execs_nil ⟨σ', H', J'.ofTry ok, q⟩
    | brk =>
      obtain ⟨σ', H', J', q⟩ := hsp
      exact ⟨σ', H', J'.ofTry ok, q⟩
    | cont =>
      obtain ⟨σ', H', J', q⟩ := hsp
      exact ⟨σ', H', J'.ofTry ok, q⟩
    | ret u =>
      obtain ⟨v, σ', H', J', r, q⟩ := hsp
      exact ⟨v, σ', H', J'.ofTry ok, r, q⟩
end
/-- isinstance(e, c), e an exception held as a value -/
def rIsV (K : PySem.W.Frag) : List V → Hp → VK → Prop := fun xs H Q => ∃ (a D : Addr) (c : V) (cv : Value) (b : Bool), xs = [.ref a, c] ∧ H a = some (ExV (.ref D) none a) ∧ ExcC K D ∧ (∀ u, RelV c u → u = cv) ∧ PySem.W.kitOne K (.ref D) cv = some b ∧ Q (.bl b) H
theorem call_isV {X : Cx} : CallR X (.builtin "isinstance") (rIsV X.K) := by
  intro pins s σ H xs us Q I r h
  obtain ⟨a, D, c, cv, b, rfl, ha, C, hcv, e, q⟩ := h
  cases r with
  | cons rx rr =>
    cases rr with
    | cons rt rr =>
      cases rr
      cases rx
      have ec := hcv _ rt
      subst ec
      obtain ⟨⟨oe, vs, hget, hz, hv⟩, _, _⟩ := I.hok a _ ha
      have J : PySem.W.InstAt s.heap a oe D none := by
        obtain ⟨oc, od, oda, osl⟩ := oe
        obtain ⟨h1, h2⟩ := hz
        dsimp only at h1 h2 hv
        subst h1 h2 hv
        exact ⟨hget, rfl, rfl, trivial⟩
      exact PySem.W.kia_one (PySem.W.handS_kitx_exc C.hg C.hk C.hs C.hd C.ha C.hn C.ht C.hm) I.kIn J e (fun z => nomatch z) fun tk => ⟨.bl b, H, I.kept (t' := tk) fun _ _ z => z, rfl, q⟩
end Kb
set_option Elab.async false
set_option linter.all false
set_option maxRecDepth 100000
set_option maxHeartbeats 2000000
namespace Kb
open PySem PySem.Spec PyProof.Rows L2 GenW
/-! ### all, any of a generator expression, its element read over the layer -/
/-- the generator expression's own names; captured names that the def has; its own are no names of the def -/
structure GenOk (N : List Str) (sc scope : Scope) (own : List Str) : Prop where
  kind : scope.kind = .function
  co : scope.isCoroutine = false
  cell : ∀ y ∈ scope.names, y.2 ≠ .cell
  dot : scope.names.lookup (".0" : Str) = some NameKind.local
  free : ∀ y ∈ scope.names, y.2 = .free → sc.names.lookup y.1 = some .cell ∨ sc.names.lookup y.1 = some .free
  out : ∀ y ∈ scope.names, y.2 = .local → y.1 ∉ N
  nd : (N ++ own).Nodup
def genB (N : List Str) (sc scope : Scope) (own : List Str) : Bool :=
  decide (scope.kind = .function) && !scope.isCoroutine && decide (scope.names.lookup (".0" : Str) = some NameKind.local) && decide ((N ++ own).Nodup) &&
    scope.names.all fun y => !decide (y.2 = .cell) && (!decide (y.2 = .free) || decide (sc.names.lookup y.1 = some .cell) || decide (sc.names.lookup y.1 = some .free)) && (!decide (y.2 = .local) || decide (y.1 ∉ N))
theorem genOk_by {N : List Str} {sc scope : Scope} {own : List Str} (h : genB N sc scope own = true) : GenOk N sc scope own := by
  unfold genB at h
  simp only [Bool.and_eq_true, Bool.or_eq_true, Bool.not_eq_true', decide_eq_true_eq, decide_eq_false_iff_not, List.all_eq_true] at h
  obtain ⟨⟨⟨⟨h1, h2⟩, h3⟩, h4⟩, h5⟩ := h
  refine ⟨h1, h2, fun y hy => (h5 y hy).1.1, h3, fun y hy e => ?_, fun y hy e => ?_, h4⟩
  · rcases (h5 y hy).1.2 with (z | z) | z
    · exact absurd e z
    · exact .inl z
    · exact .inr z
  · rcases (h5 y hy).2 with z | z
    · exact absurd e z
    · exact z
/-- the context of its frame -/
abbrev gcx (X : Cx) (s : Shared) (H : Hp) (scope : Scope) (C : Addr) (code : Value) (bi : Addr) (own : List Str) (fp : List Addr) : Cx :=
  { X with A := X.A.in1.in1.deeper (genEnv scope (cloFrom X.env.cells scope.names []) C code bi X.env), N := X.N ++ own, s_0 := s, H_0 := H, env := genEnv scope (cloFrom X.env.cells scope.names []) C code bi X.env, outer := X.stack, stack := genEnv scope (cloFrom X.env.cells scope.names []) C code bi X.env :: X.stack, ex := fp, fn := fun _ => false, calm := true, pn := [], xe := fun _ _ => False }
structure Woken (s s' : Shared) : Prop where
  heap : s'.heap = s.heap
  os : s'.os = s.os
  bare : AllBare s'.gens
section
variable {X : Cx} {pins : List (Addr × Obj)} {σ : L2.St} {H : Hp} {s s' : Shared}
theorem inv_woken (I : Inv X pins σ H s) (z : Woken s s') : Inv X pins σ H s' := by
  obtain ⟨h, g, d, t, o⟩ := s'
  obtain ⟨z1, z2, z3⟩ := z
  dsimp only at z1 z2
  subst z1 z2
  exact ⟨I.ok, I.os, z3, I.base, I.loc, I.cell, I.free, I.freeC, I.pin, I.hok, I.len⟩
theorem Inv.nb (I : Inv X pins σ H s) : ∀ p ∈ X.pn ++ pins, p.1 < s.heap.objs.size := fun p hp => Heap.lt_size (I.pin p hp).1
/-- the generator's frame is made: its context begins -/
theorem gen_start {scope : Scope} {own : List Str} {fp : List Addr} {code : Value} {it : Addr} {h' : Heap} {go : Obj} {gs : Array GenState} {tk : Nat} (hc : X.calm = true) (I : Inv X pins σ H s) (ok : GenOk X.N X.env.scope scope own) (hfp : ∀ b ∈ fp, FpOk X pins H b ∧ b < s.heap.objs.size)
    (hn : h'.Ns s.heap.objs.size (fun y => if y = ".0" then some (.ref it) else none)) (hk : ∀ b o, s.heap.get? b = some o → h'.get? b = some o) (hsz : h'.objs.size = s.heap.objs.size + 1) (hb : AllBare gs) (hgd : ∀ v, go.data ≠ .cell v) (hgf : go.isFreed = false) :
    Inv (gcx X s H scope s.heap.objs.size code builtinsNs own fp) [(h'.objs.size, go)] (σ ++ List.replicate own.length none) H { s with gens := gs, toks := tk, heap := h'.push go } := by
  have hfree : ∀ y ∈ scope.names, y.2 = .free → ∃ c, X.env.cells.lookup y.1 = some c := fun y hy e => by
    rcases ok.free y hy e with k | k
    · exact I.ok.has _ (.inl k)
    · exact I.ok.has _ (.inr k)
  have cm : ∀ {y c}, (cloFrom X.env.cells scope.names []).lookup y = some c → X.env.cells.lookup y = some c := fun {y c} e => by
    rcases cloFrom_mem (PySem.mem_of_lookup e) with hm | ⟨h1, h2⟩
    · cases hm
    · obtain ⟨c1, hc⟩ := hfree _ h1 rfl
      have hc : X.env.cells.lookup y = some c1 := hc
      have e2 : c = c1 := by
        rw [h2, hc] <;> rfl
      rw [e2]
      exact hc
  have look : ∀ {y}, scope.names.lookup y = some .free → ∃ c, (cloFrom X.env.cells scope.names []).lookup y = some c := fun {y} hl => by
    have hy : (y, NameKind.free) ∈ scope.names := PySem.mem_of_lookup hl
    exact mem_lookup (cloFrom_has (cells := X.env.cells) (acc := []) hy)
  have clt : ∀ {y c}, X.env.cells.lookup y = some c → c < s.heap.objs.size := fun {y c} e => let ⟨v, z⟩ := I.cell y c e; z.lt
  have kp : ∀ b o, s.heap.get? b = some o → (h'.push go).get? b = some o := fun b o e => Heap.get?_push_of_some _ (hk b o e)
  have cellK : ∀ {c : Addr} {v : Option Value}, s.heap.IsCell c v → (h'.push go).IsCell c v := fun {c v} ⟨o, ho, hd⟩ => ⟨o, kp _ _ ho, hd⟩
  have frL : ∀ b ∈ frs X.stack, b < s.heap.objs.size := fun b hb => by
    obtain ⟨_, o, ho, _⟩ := I.stack.mem hb
    exact Heap.lt_size ho
  refine ⟨⟨I.ok.mod, ok.kind, I.ok.glob, rfl, Nat.le_refl _, fun y z c e1 e2 => I.ok.inj y z c (cm e1) (cm e2), fun y hy => ?_, fun y c z _ => ?_, fun _ => I.ok.hd hc, Around.frames_deeper I.ok.frames, .inr ⟨rfl, rfl⟩, fun b hb => ⟨?_, fun y c e z => ?_⟩, I.bs, Nat.le_trans I.ok.bsz I.sz, fun b o e hb => ?_, fun b hb z => ?_, I.stack, I.stkFree⟩,
    rfl, hb, Un.kept kp, ⟨_, hn.push _, fun i y v e1 e2 e3 => ?_⟩, fun y c e => ?_, I.hok.fresh (Nat.le_refl _), fun y c e => ?_, fun p hp => ?_, I.hok.kept kp, ?_⟩
  · have hy : scope.names.lookup y = some .cell ∨ scope.names.lookup y = some .free := hy
    rcases hy with hy | hy
    · exact absurd rfl (ok.cell _ (PySem.mem_of_lookup hy))
    · exact look hy
  · have z : false = true := z
    cases z
  · exact Nat.ne_of_lt (hfp b hb).2
  · have e : (cloFrom X.env.cells scope.names []).lookup y = some c := e
    exact (hfp b hb).1.2.2.2.2.1 y c (cm e) z
  · rcases (hfp b hb).1.2.2.2.1 with z | z
    · exact I.ok.noex b o e z
    · have h1 := Heap.lt_size e
      exact absurd (Nat.lt_of_lt_of_le (Nat.lt_of_lt_of_le h1 I.ok.bsz) z) (Nat.lt_irrefl _)
  · rcases List.mem_cons.mp (I.stkSub b z) with q | q
    · exact (hfp b hb).1.2.1 q
    · exact (hfp b hb).1.2.2.1 q
  · have e3 : Vis scope y := e3
    have lenσ := I.len
    have hi : i < σ.length := by
      by_cases hi : i < σ.length
      · exact hi
      · rw [List.getElem?_append_right (by omega), List.getElem?_replicate] at e2
        split at e2 <;> cases e2
    rw [List.getElem?_append_left hi] at e2
    have e1' : X.N[i]? = some y := by
      have q : (X.N ++ own)[i]? = some y := e1
      rw [List.getElem?_append_left (by omega)] at q
      exact q
    rcases e3 with k | k | k
    · exact absurd (List.mem_of_getElem? e1') (ok.out _ (PySem.mem_of_lookup k) rfl)
    · exact absurd rfl (ok.cell _ (PySem.mem_of_lookup k))
    · obtain ⟨m, hn0, hl⟩ := I.loc
      have hvis : Vis X.env.scope y := (ok.free _ (PySem.mem_of_lookup k) rfl).elim (fun k => .inr (.inl k)) (fun k => .inr (.inr k))
      obtain ⟨w', r, q⟩ := hl i y v e1' e2 hvis
      obtain ⟨c2, h2⟩ := look k
      refine ⟨w', r, .inr ⟨.inr k, c2, h2, ?_⟩⟩
      have c1 := cm h2
      rcases q with ⟨k', _⟩ | ⟨_, c3, e', z⟩
      · have k' : X.env.scope.names.lookup y = some .local := k'
        rcases ok.free _ (PySem.mem_of_lookup k) rfl with k2 | k2 <;> rw [show X.env.scope.names.lookup y = _ from k2] at k' <;> cases k'
      · rw [c1] at e'
        cases e'
        exact cellK z
  · obtain ⟨w', z⟩ := I.cell y c (cm e)
    exact ⟨w', cellK z⟩
  · exact I.freeC y c (cm e)
  · have hp : p = (h'.objs.size, go) := by
      have q : p ∈ ([] : List (Addr × Obj)) ++ [(h'.objs.size, go)] := hp
      simpa using q
    rw [hp]
    refine ⟨Heap.get?_push_size _ hgf, I.hok.fresh (by show s.heap.objs.size ≤ h'.objs.size; omega), ?_, fun hb => ?_, hgd⟩
    · show h'.objs.size ≠ s.heap.objs.size
      omega
    · have := frL _ hb
      have q : h'.objs.size < s.heap.objs.size := this
      omega
  · rw [List.length_append, List.length_append, I.len, List.length_replicate]
end
/-- where a generator expression under all (stopOn false) or any (true) hands out -/
def AY (Xg : Cx) (pins : List (Addr × Obj)) (σg : L2.St) (stopOn : Bool) (Qf : Hp → Prop) : Protocol := fun _ _ v s kap =>
  ∃ (H : Hp) (b : Bool), v = .bool b ∧ Inv Xg pins σg H s ∧ (b = stopOn → Qf H) ∧ (b = !stopOn → ∀ s', Woken s s' → kap (.send .none) s')
def AR (Xg : Cx) (pins : List (Addr × Obj)) (σg : L2.St) (Qe : Hp → Prop) : GenEnd := fun _ _ r s => ((r = .ok (.ret .none) ∨ r = .ok .next) ∧ ∃ H, Inv Xg pins σg H s ∧ Qe H) ∨ ∃ e, r = .error e ∧ False
theorem over_gen {A : Around} {elt tg iter : Expr} {scope : Scope} {pos : Pos} {it : Addr} {env : Env} : A.over (.compLoop (.GeneratorExp elt [⟨tg, iter, [], 0⟩] scope pos) 0 (.ref it) .none env) [] = A.deeper env := by
  first
    | rfl
    | (obtain ⟨hd, d, fr, gs, u⟩ := A; simp [Around.over, Around.deeper, marksOver, frameCount, unitsOf, envsOf, guardsOf, pushEnvs, pushGuards, Code.envs, Code.env?, Code.isFrame, Code.guards, Code.isGuard, Code.weight, Code.frames, Code.isCreation, Code.isCaller, Code.cUnits])
/-- what is asked of the turns -/
def Turns (J : It) (g : TG) (te : TE) (σg : L2.St) (n : Nat) (stopOn : Bool) (Qe Qf : Hp → Prop) (W : Nat → Nat → Hp → Prop) : Prop := ∀ i m H, W i m H →
  (J.stop i H ∧ Qe H) ∨ (J.go i H ∧ ∀ x H', J.yld i H x H' → g x σg H' fun σ2 H2 => σ2.take n = σg.take n ∧ te σ2 H2 fun y H3 => ∃ b, y = .bl b ∧ (b = stopOn → Qf H3) ∧ (b = !stopOn → ∃ m', m' < m ∧ W (i + 1) m' H3))
section
variable {Xg : Cx} {pins : List (Addr × Obj)} {σg : L2.St} {A0 : Around} {elt tg iter : Expr} {scope : Scope} {pos : Pos} {it : Addr} {fp : List Addr} {tn : Nat → Heap → Prop} {J : It} {g : TG} {te : TE} {stopOn : Bool} {Qe Qf : Hp → Prop} {W : Nat → Nat → Hp → Prop} {k : Nat}
theorem seg_all (hA : A0.over (.compLoop (.GeneratorExp elt [⟨tg, iter, [], 0⟩] scope pos) 0 (.ref it) .none Xg.env) [] = Xg.A) (hxe : Xg.xe = fun _ _ => False) (hpn : Xg.pn = []) (hex : Xg.ex = fp) (hc : Xg.calm = true) (hco : Xg.env.scope.isCoroutine = false)
    (T : Turn Xg.prog Xg.w Xg.K tg J fp it tn) (pg : PG Xg tg g) (pe : PE Xg elt te) (hpf : ∀ b ∈ fp, ∀ p ∈ pins, p.1 ≠ b) (hσ : σg = σg.take k ++ List.replicate (σg.length - k) none) (turn : Turns J g te σg k stopOn Qe Qf W) :
    ∀ (m n i : Nat) (s₀ s : Shared) (H : Hp), m < n → W i m H → Inv Xg pins σg H s → tn i s.heap → (∀ b ∈ fp, H b = none) →
      Seg (model Xg.prog Xg.w) A0 (AR Xg pins σg Qe) (AY Xg pins σg stopOn Qf) n s₀ (.compLoop (.GeneratorExp elt [⟨tg, iter, [], 0⟩] scope pos) 0 (.ref it) .none Xg.env)
        ((model Xg.prog Xg.w).den (.compLoop (.GeneratorExp elt [⟨tg, iter, [], 0⟩] scope pos) 0 (.ref it) .none Xg.env)) [] s := by
  have stat : ∀ {σ' : L2.St} {H' : Hp} {s' : Shared}, Inv Xg pins σ' H' s' → (∀ b ∈ fp, H' b = none) → ∀ b ∈ fp, FpOk Xg pins H' b := fun {σ' H' s'} I' hn b hb =>
    ⟨hn b hb, (I'.ok.exf b (by rw [hex]; exact hb)).1, I'.ok.exfs b (by rw [hex]; exact hb), .inl (by rw [hex]; exact hb), fun x c e => (I'.ok.exf b (by rw [hex]; exact hb)).2 x c e, fun p hp => hpf b hb p (by rw [hpn] at hp; exact hp)⟩
  intro m
  induction m using Nat.strongRecOn with
  | ind m ih =>
    intro n i s₀ s H hmn w I st hn
    show Seg _ A0 _ _ _ s₀ _ ((compTurn (.GeneratorExp elt [⟨tg, iter, [], 0⟩] scope pos) 0 (.ref it) .none Xg.env).onRaise (leaving Xg.env)) [] s
    rw [compTurn_gen, Sem.onRaise_eq_wrap]
    refine seg_bind_wrap (wpAny_standAt ?_)
    refine seg_bind_wrap ?_
    rw [hA]
    rcases turn i m H w with ⟨stop, qq⟩ | ⟨go, step⟩
    · refine wpAny_mono (T.done Xg rfl rfl rfl hc i pins s _ H (fun _ _ => False) I (stat I hn) st stop) (fun r s6 h6 => ?_) (fun _ _ z => z.elim)
      obtain ⟨hr, I6⟩ := h6
      subst hr
      exact seg_end (.ok .next) (.inl ⟨.inr rfl, H, I6, qq⟩)
    · refine wpAny_mono (T.item Xg rfl rfl rfl hc i pins s _ H (fun _ _ => False) I (stat I hn) st go) (fun r s6 h6 => ?_) (fun _ _ z => z.elim)
      obtain ⟨u, hr, h6⟩ := h6
      subst hr
      refine seg_bind_wrap ?_
      rw [hA]
      refine wpAny_mono h6 (fun _ s7 h7 => ?_) (fun _ _ z => z.elim)
      obtain ⟨x, H7, I7, r7, y7, st7, n7⟩ := h7
      have I7' := I7.pinned (stat I7 n7) (T.obj _ _ st7)
      refine seg_bind_wrap ?_
      rw [hA]
      refine wpAny_mono (pg.run _ s7 _ H7 x u _ I7' r7 (step x H7 y7)) (fun _ s8 h8 => ?_) (fun _ _ z => by rw [hxe] at z; exact z.elim)
      obtain ⟨σ8, H8, I8, hw8, q8⟩ := h8
      refine seg_bind_wrap (wpAny_pure ?_)
      simp only [List.forIn_nil, if_true]
      have hy : ∀ v, yieldOut Xg.env v = yieldValue v := fun v => by simp only [yieldOut, hco, Bool.false_eq_true, if_false]
      simp only [hy]
      rw [Sem.bind_eq_wrap', Sem.bind_eq_wrap', Sem.wrap_wrap, Sem.wrap_wrap]
      refine seg_wrap ?_
      rw [hA]
      refine wpAny_mono (pe.run _ s8 σ8 H8 _ I8 q8) (fun z s10 h10 => ?_) (fun _ _ z => by rw [hxe] at z; exact z.elim)
      obtain ⟨yv, H10, I10, r10, b, eb, hf, ht⟩ := h10
      subst eb
      obtain rfl : z = Value.bool b := r10
      have pin' : ∀ b ∈ fp, ∀ o, s7.heap.get? b = some o → s10.heap.get? b = some o ∧ H10 b = none := fun b hb o e =>
        let z := I10.pin (b, o) (List.mem_append_right _ (List.mem_append_right _ (mem_pinsAt hb e)))
        ⟨z.1, z.2.1⟩
      have hl : σg.length = σ8.length := I.len.trans I8.len.symm
      have J10 : Inv Xg pins σg H10 s10 := (I10.unpinned (pins := pins)).weak hl (fun j v e => by
        rw [hσ] at e
        by_cases hj : j < (σg.take k).length
        · rw [List.getElem?_append_left hj] at e
          have e2 : (σ8.take k)[j]? = some (some v) := by rw [hw8]; exact e
          have hjk : j < k := by rw [List.length_take] at hj; omega
          rw [List.getElem?_take_of_lt hjk] at e2
          exact e2
        · rw [List.getElem?_append_right (by omega), List.getElem?_replicate] at e
          split at e <;> cases e)
      have n10 : ∀ b ∈ fp, H10 b = none := fun b hb => by
        obtain ⟨o, e, _⟩ := T.obj _ _ st7 b hb
        exact (pin' b hb o e).2
      have st10 : tn (i + 1) s10.heap := T.keep _ _ _ st7 fun b hb o e => (pin' b hb o e).1
      cases n with
      | zero => omega
      | succ n =>
        refine seg_at (seg_yield rfl rfl rfl ⟨H10, b, rfl, J10, hf, fun hb s'' z => ?_⟩)
        obtain ⟨m', hm, w'⟩ := ht hb
        refine seg_again rfl (ih m' hm n (i + 1) s'' s'' H10 (by omega) w' (inv_woken J10 z) (by rw [z.heap]; exact st10) n10)
end

section
variable {Xg : Cx} {pins : List (Addr × Obj)} {σg : L2.St} {A : Around} {Qe Qf : Hp → Prop} {a : Addr} {g : Nat} {R : Result → Shared → Prop}
theorem all_drain (hh : A.handled = none) (hd : A.depth < recursionLimit) (hgen : ∀ s : Shared, (∀ p ∈ pins, s.heap.get? p.1 = some p.2) → s.heap.IsGen a g)
    (hE : ∀ H s, Inv Xg pins σg H s → Qe H → R (.ok (.ret (.bool true))) s) (hF : ∀ H s, Inv Xg pins σg H s → Qf H → R (.ok (.ret (.bool false))) s) :
    ∀ (n : Nat) (s : Shared), s.heap.IsGen a g → s.heap.NoLimit → (∃ gs, s.gens[g]? = some gs ∧ gs.Goes (model Xg.prog Xg.w) A.in1.in1 (AR Xg pins σg Qe) (AY Xg pins σg false Qf) n (.send .none) (s.setGen g .running)) →
      codeAny (model Xg.prog Xg.w) A (.builtin "all.loop" ⟨[.ref a], []⟩) R s := by
  have pinned : ∀ {H : Hp} {s : Shared}, Inv Xg pins σg H s → s.heap.IsGen a g := fun {H s} I => hgen s fun p hp => (I.pin p (List.mem_append_right _ hp)).1
  have weakR : ∀ {gs : GenState} {B : Around} {n : Nat} {r : Resume} {s : Shared}, gs.Goes (model Xg.prog Xg.w) B (AR Xg pins σg Qe) (AY Xg pins σg false Qf) n r s →
      gs.Goes (model Xg.prog Xg.w) B (fun n s₀ r s1 => ((r = .ok (.ret .none) ∨ r = .ok .next) ∧ ∃ H, Inv Xg pins σg H s1 ∧ Qe H) ∨ ∃ e, r = .error e ∧ False) (AY Xg pins σg false Qf) n r s := fun {gs B n r s} h => h
  intro n
  induction n with
  | zero =>
    intro s hg hl ⟨gs, hgs, hgo⟩
    refine codeAny_builtin F.entry_all_loop ?_
    rw [Around.under_plainId F.plain_all_loop _]
    show wpAny _ A.in1 (pyNext (.ref a) >>= _) _ _ s
    refine wpAny_bind (next_genG (A := A.in1) hh hl hd hg hgs (weakR hgo) (fun v s₁ gs' hbare hv => ?_) (fun s₁ hp h' hk => ?_) fun e s₁ he => he.elim)
    · obtain ⟨H, b, rfl, I, q1, q2⟩ := hv
      have b0 : b = false := by
        cases b with
        | false => rfl
        | true => exact (q2 rfl s₁ ⟨rfl, rfl, I.bare⟩).elim
      subst b0
      refine wpAny_bind (wpAny_holding (wpAny_truthy_bool ?_))
      refine wpAny_bind (wpAny_letGo ?_)
      simp only [Bool.false_eq_true, if_false]
      refine wpAny_bind (wpAny_rule (wpAny_pure ?_))
      exact hF H _ (inv_woken I ⟨rfl, rfl, allBare_setGen I.bare hbare⟩) (q1 rfl)
    · obtain ⟨H, I, q⟩ := hp
      refine wpAny_bind (wpAny_rule (wpAny_pure ?_))
      have J : Inv Xg pins σg H { s₁ with heap := h' } := I.kept (t' := s₁.toks) hk
      exact hE H _ (inv_woken J ⟨rfl, rfl, allBare_setGen (s := s₁) I.bare rfl⟩) q
  | succ n ih =>
    intro s hg hl ⟨gs, hgs, hgo⟩
    have hgl : g < s.gens.size := (Array.getElem?_eq_some_iff.mp hgs).1
    refine codeAny_builtin F.entry_all_loop ?_
    rw [Around.under_plainId F.plain_all_loop _]
    show wpAny _ A.in1 (pyNext (.ref a) >>= _) _ _ s
    refine wpAny_bind (wpAny_gsz (n := g + 1) hgl (next_genG (A := A.in1) hh hl hd hg hgs (weakR hgo) (fun v s₁ gs' hbare hv => ?_) (fun s₁ hp h' hk => ?_) fun e s₁ he => he.elim))
    · intro hsz
      have hsz1 : g < s₁.gens.size := by
        have q : (s₁.setGen g gs').gens.size = s₁.gens.size := setGen_size _ _ _
        have hsz' : g + 1 ≤ (s₁.setGen g gs').gens.size := hsz
        omega
      obtain ⟨H, b, rfl, I, q1, q2⟩ := hv
      refine wpAny_bind (wpAny_holding (wpAny_truthy_bool ?_))
      refine wpAny_bind (wpAny_letGo ?_)
      have hb1 : AllBare (s₁.setGen g gs').gens := allBare_setGen I.bare hbare
      cases b with
      | false =>
        simp only [Bool.false_eq_true, if_false]
        refine wpAny_bind (wpAny_rule (wpAny_pure ?_))
        exact hF H _ (inv_woken I ⟨rfl, rfl, hb1⟩) (q1 rfl)
      | true =>
        simp only [if_true]
        have J : Inv Xg pins σg H (s₁.setGen g gs') := inv_woken I ⟨rfl, rfl, hb1⟩
        refine wpAny_pure ⟨plainId_quiet F.plain_all_loop _, ih (s₁.setGen g gs') (pinned J) J.nolimit ⟨gs', setGen_at hsz1, ?_⟩⟩
        have z := q2 rfl ((s₁.setGen g gs').setGen g .running) ⟨rfl, rfl, allBare_setGen hb1 rfl⟩
        exact z
    · intro hsz
      obtain ⟨H, I, q⟩ := hp
      refine wpAny_bind (wpAny_rule (wpAny_pure ?_))
      have J : Inv Xg pins σg H { s₁ with heap := h' } := I.kept (t' := s₁.toks) hk
      exact hE H _ (inv_woken J ⟨rfl, rfl, allBare_setGen (s := s₁) I.bare rfl⟩) q
theorem any_drain (hh : A.handled = none) (hd : A.depth < recursionLimit) (hgen : ∀ s : Shared, (∀ p ∈ pins, s.heap.get? p.1 = some p.2) → s.heap.IsGen a g)
    (hE : ∀ H s, Inv Xg pins σg H s → Qe H → R (.ok (.ret (.bool false))) s) (hF : ∀ H s, Inv Xg pins σg H s → Qf H → R (.ok (.ret (.bool true))) s) :
    ∀ (n : Nat) (s : Shared), s.heap.IsGen a g → s.heap.NoLimit → (∃ gs, s.gens[g]? = some gs ∧ gs.Goes (model Xg.prog Xg.w) A.in1.in1 (AR Xg pins σg Qe) (AY Xg pins σg true Qf) n (.send .none) (s.setGen g .running)) →
      codeAny (model Xg.prog Xg.w) A (.builtin "any.loop" ⟨[.ref a], []⟩) R s := by
  have pinned : ∀ {H : Hp} {s : Shared}, Inv Xg pins σg H s → s.heap.IsGen a g := fun {H s} I => hgen s fun p hp => (I.pin p (List.mem_append_right _ hp)).1
  have weakR : ∀ {gs : GenState} {B : Around} {n : Nat} {r : Resume} {s : Shared}, gs.Goes (model Xg.prog Xg.w) B (AR Xg pins σg Qe) (AY Xg pins σg true Qf) n r s →
      gs.Goes (model Xg.prog Xg.w) B (fun n s₀ r s1 => ((r = .ok (.ret .none) ∨ r = .ok .next) ∧ ∃ H, Inv Xg pins σg H s1 ∧ Qe H) ∨ ∃ e, r = .error e ∧ False) (AY Xg pins σg true Qf) n r s := fun {gs B n r s} h => h
  intro n
  induction n with
  | zero =>
    intro s hg hl ⟨gs, hgs, hgo⟩
    refine codeAny_builtin F.entry_any_loop ?_
    rw [Around.under_plainId F.plain_any_loop _]
    show wpAny _ A.in1 (pyNext (.ref a) >>= _) _ _ s
    refine wpAny_bind (next_genG (A := A.in1) hh hl hd hg hgs (weakR hgo) (fun v s₁ gs' hbare hv => ?_) (fun s₁ hp h' hk => ?_) fun e s₁ he => he.elim)
    · obtain ⟨H, b, rfl, I, q1, q2⟩ := hv
      have b0 : b = true := by
        cases b with
        | true => rfl
        | false => exact (q2 rfl s₁ ⟨rfl, rfl, I.bare⟩).elim
      subst b0
      refine wpAny_bind (wpAny_holding (wpAny_truthy_bool ?_))
      refine wpAny_bind (wpAny_letGo ?_)
      simp only [if_true]
      refine wpAny_bind (wpAny_rule (wpAny_pure ?_))
      exact hF H _ (inv_woken I ⟨rfl, rfl, allBare_setGen I.bare hbare⟩) (q1 rfl)
    · obtain ⟨H, I, q⟩ := hp
      refine wpAny_bind (wpAny_rule (wpAny_pure ?_))
      have J : Inv Xg pins σg H { s₁ with heap := h' } := I.kept (t' := s₁.toks) hk
      exact hE H _ (inv_woken J ⟨rfl, rfl, allBare_setGen (s := s₁) I.bare rfl⟩) q
  | succ n ih =>
    intro s hg hl ⟨gs, hgs, hgo⟩
    have hgl : g < s.gens.size := (Array.getElem?_eq_some_iff.mp hgs).1
    refine codeAny_builtin F.entry_any_loop ?_
    rw [Around.under_plainId F.plain_any_loop _]
    show wpAny _ A.in1 (pyNext (.ref a) >>= _) _ _ s
    refine wpAny_bind (wpAny_gsz (n := g + 1) hgl (next_genG (A := A.in1) hh hl hd hg hgs (weakR hgo) (fun v s₁ gs' hbare hv => ?_) (fun s₁ hp h' hk => ?_) fun e s₁ he => he.elim))
    · intro hsz
      have hsz1 : g < s₁.gens.size := by
        have q : (s₁.setGen g gs').gens.size = s₁.gens.size := setGen_size _ _ _
        have hsz' : g + 1 ≤ (s₁.setGen g gs').gens.size := hsz
        omega
      obtain ⟨H, b, rfl, I, q1, q2⟩ := hv
      refine wpAny_bind (wpAny_holding (wpAny_truthy_bool ?_))
      refine wpAny_bind (wpAny_letGo ?_)
      have hb1 : AllBare (s₁.setGen g gs').gens := allBare_setGen I.bare hbare
      cases b with
      | true =>
        simp only [if_true]
        refine wpAny_bind (wpAny_rule (wpAny_pure ?_))
        exact hF H _ (inv_woken I ⟨rfl, rfl, hb1⟩) (q1 rfl)
      | false =>
        simp only [Bool.false_eq_true, if_false]
        have J : Inv Xg pins σg H (s₁.setGen g gs') := inv_woken I ⟨rfl, rfl, hb1⟩
        refine wpAny_pure ⟨plainId_quiet F.plain_any_loop _, ih (s₁.setGen g gs') (pinned J) J.nolimit ⟨gs', setGen_at hsz1, ?_⟩⟩
        have z := q2 rfl ((s₁.setGen g gs').setGen g .running) ⟨rfl, rfl, allBare_setGen hb1 rfl⟩
        exact z
    · intro hsz
      obtain ⟨H, I, q⟩ := hp
      refine wpAny_bind (wpAny_rule (wpAny_pure ?_))
      have J : Inv Xg pins σg H { s₁ with heap := h' } := I.kept (t' := s₁.toks) hk
      exact hE H _ (inv_woken J ⟨rfl, rfl, allBare_setGen (s := s₁) I.bare rfl⟩) q
end

section
variable {Xg : Cx} {pins : List (Addr × Obj)} {σg : L2.St} {A0 : Around} {elt tg iter : Expr} {scope : Scope} {pos : Pos} {it : Addr} {R : GenEnd} {Y : Protocol} {n : Nat} {s₀ s : Shared}
theorem seg_allStart (loop : Seg (model Xg.prog Xg.w) A0 R Y n s₀ (.compLoop (.GeneratorExp elt [⟨tg, iter, [], 0⟩] scope pos) 0 (.ref it) .none Xg.env) ((model Xg.prog Xg.w).den (.compLoop (.GeneratorExp elt [⟨tg, iter, [], 0⟩] scope pos) 0 (.ref it) .none Xg.env)) [] s)
    (self : ∀ (A : Around) (Q : Value → Shared → Prop) (E : Value → Shared → Prop), Q (.ref it) s → wpAny (model Xg.prog Xg.w) A (pyIter (.ref it)) Q E s) :
    Seg (model Xg.prog Xg.w) A0 R Y n s₀ (.compStart (.GeneratorExp elt [⟨tg, iter, [], 0⟩] scope pos) 0 (.ref it) .none Xg.env) ((model Xg.prog Xg.w).den (.compStart (.GeneratorExp elt [⟨tg, iter, [], 0⟩] scope pos) 0 (.ref it) .none Xg.env)) [] s := by
  show Seg _ A0 _ _ _ s₀ _ ((compStart (.GeneratorExp elt [⟨tg, iter, [], 0⟩] scope pos) 0 (.ref it) .none Xg.env).onRaise (leaving Xg.env)) [] s
  unfold compStart
  rw [Sem.onRaise_eq_wrap]
  show Seg _ A0 _ _ _ s₀ _ ((ask >>= _).wrap _ _ _ _) [] s
  refine seg_bind_wrap (wpAny_askSetting ?_)
  split
  · exact seg_again rfl loop
  · first
      | exact seg_bind_wrap (wpAny_rule (seg_bind_wrap (wpAny_standAt (seg_bind_wrap (self _ _ _ (seg_again rfl loop))))))
      | (refine seg_bind_wrap (wpAny_rule ?_); show Seg _ A0 _ _ _ s₀ _ ((standAt iter.pos >>= _).wrap _ _ _ _) [] s; exact seg_bind_wrap (wpAny_standAt (seg_bind_wrap (self _ _ _ (seg_again rfl loop)))))
end
/-- all(elt for tg in iter), any(..): its reading -/
def tQG (P : Addr) (wi : TI) (g : TG) (te : TE) (n : Nat) (stopOn : Bool) : TE := fun σ H Q => wi σ H fun J H1 => GxR.TabG H1 P ∧ ∀ H2, GxR.Tabbed P H1 H2 →
  ∃ W : Nat → Nat → Hp → Prop, (∃ m, W 0 m H2) ∧ Turns J g te (σ ++ List.replicate n none) σ.length stopOn (fun H => Q (.bl (!stopOn)) H) (fun H => Q (.bl stopOn) H) W
section
variable {X : Cx} {pins : List (Addr × Obj)} {σ : L2.St} {H : Hp} {s : Shared}
/-- the generator stands ready at a -/
def ReadyG (X : Cx) (pins : List (Addr × Obj)) (σ : L2.St) (stopOn : Bool) (Q : VK) (a : Addr) (s5 : Shared) : Prop :=
  ∃ (Xg : Cx) (pg : List (Addr × Obj)) (σg : L2.St) (n g : Nat) (c : Code), Xg.prog = X.prog ∧ Xg.w = X.w ∧ s5.heap.IsGen a g ∧ s5.heap.NoLimit ∧ s5.gens[g]? = some (.fresh c) ∧ (∀ s : Shared, (∀ p ∈ pg, s.heap.get? p.1 = some p.2) → s.heap.IsGen a g) ∧
    (∀ s' : Shared, Woken s5 s' → Seg (model X.prog X.w) X.A.in1.in1 (AR Xg pg σg (fun H => Q (.bl (!stopOn)) H)) (AY Xg pg σg stopOn (fun H => Q (.bl stopOn) H)) n s' c ((model X.prog X.w).den c) [] s') ∧
    AllBare s5.gens ∧ ∀ H s', Inv Xg pg σg H s' → Inv X pins σ H s'
theorem gen_ready {c P : Addr} {elt tg iter : Expr} {gpos : Pos} {scope : Scope} {own : List Str} {wi : TI} {g : TG} {te : TE} {stopOn : Bool} {Q : VK} {Q' : Value → Shared → Prop}
    (hd : X.A.handled = none) (hdep : X.A.depth < recursionLimit) (hc : X.calm = true) (TB : GxR.TabB X.base X.mg c P) (hcode : X.env.code = .ref c) (S : GenOk X.N X.env.scope scope own) (hi : PI X tg iter wi)
    (hgt : ∀ (s : Shared) (H : Hp) (C : Addr) (code : Value) (fp : List Addr), PG (gcx X s H scope C code builtinsNs own fp) tg g) (hel : ∀ (s : Shared) (H : Hp) (C : Addr) (code : Value) (fp : List Addr), PE (gcx X s H scope C code builtinsNs own fp) elt te)
    (hs : ∀ v, genFold iter X.env v = pure v) (I : Inv X pins σ H s) (h : tQG P wi g te own.length stopOn σ H Q)
    (hQ : ∀ a s5, ReadyG X pins σ stopOn Q a s5 → Q' (.ref a) s5) :
    wpAny (model X.prog X.w) X.A (eval (.GeneratorExp elt [⟨tg, iter, [], 0⟩] scope gpos) X.env) Q' X.xe s := by
  have hfree : ∀ y ∈ scope.names, y.2 = .free → ∃ c, X.env.cells.lookup y.1 = some c := fun y hy e => by
    rcases S.free y hy e with k | k
    · exact I.ok.has _ (.inl k)
    · exact I.ok.has _ (.inr k)
  refine wpAny_GeneratorExp_make S.co (closure_ok hfree) S.cell S.dot S.kind hdep ?_ hs
  refine thn (hi.run pins s σ H _ I h) fun xv s1 hx => thn hx fun itv s2 h2 => ?_
  obtain ⟨it, fp, tn, J, H2, e, I2, T, st2, f2, ⟨ps, hP, ht⟩, q⟩ := h2
  subst e
  have hPs : s2.heap.get? P = some { cls := .none, data := .fields ps } := I2.hok P _ hP
  have cd : PySem.W.CodeHd s2.heap c P := TB.code.keeps I2.bk
  refine ⟨I2.nolimit, ?_⟩
  have nP : ∀ b ∈ fp, b ≠ P := fun b hb z => by
    have q := (f2 b hb).1
    rw [z, hP] at q
    cases q
  have cont : ∀ (code : Value) (h3 : Heap) (tk : Nat) (more : Array Value), Heap.ExtBut P s2.heap h3 → h3.get? P = some { cls := .none, data := .fields (ps ++ more) } → TriplesOk (ps ++ more).toList →
      wpAny (model X.prog X.w) X.A (builtinsFor X.env.globals X.env.builtins) (fun bi s₄ => ∀ h', h'.Ns s₄.heap.objs.size (fun y => if y = ".0" then some (.ref it) else none) → Heap.SameBut s₄.heap.objs.size (s₄.heap.push { cls := .type "frame", data := .dict #[] }) h' →
          Q' (.ref h'.objs.size) { s₄ with
            gens := s₄.gens.push (.fresh (.compStart (.GeneratorExp elt [⟨tg, iter, [], 0⟩] scope gpos) 0 (.ref it) .none (genEnv scope (cloFrom X.env.cells scope.names []) s₄.heap.objs.size code bi X.env))),
            toks := s₄.toks + 1 + 1 + 1,
            heap := h'.push { cls := .type "generator", data := .fields #[.int s₄.gens.size 0, .str "<genexpr>" (s₄.toks + 1), .str (X.env.qual ++ "<genexpr>") (s₄.toks + 1 + 1)] } }) X.xe { s2 with heap := h3, toks := tk } := by
    intro code h3 tk more hx hP3 ht3
    obtain ⟨bm, ob, e1, e2, e3, e4, e5, e6, e7, e8⟩ := TB.bm
    have keep3 : ∀ b u, b ≠ P → s2.heap.get? b = some u → h3.get? b = some u := fun b u hb e => hx b u hb e
    refine wpAny_builtinsFor (m := X.mg) (by rw [I2.ok.glob]; exact ((I2.mod.glob.keeps I2.bk)).extBut hx TB.gP) e1 e2 (keep3 _ _ e4 (I2.bk _ _ e5)) e6 e7 e8 ?_
    have I3 : Inv X pins σ (upd H2 P (.tbl (ps ++ more))) { s2 with heap := h3, toks := tk } := GxR.inv_tab (g' := s2.gens) (d' := s2.drawn) I2 hP keep3 hP3 I2.bare
    have hT : GxR.Tabbed P H2 (upd H2 P (.tbl (ps ++ more))) := ⟨⟨_, upd_same, ht3⟩, fun b hb => upd_ne hb⟩
    obtain ⟨W, ⟨m0, w0⟩, turn⟩ := q _ hT
    intro h' hn' hs'
    have hsz : h'.objs.size = h3.objs.size + 1 := by rw [hs'.1, Heap.size_push]
    have keep' : ∀ b o, h3.get? b = some o → h'.get? b = some o := fun b o e => hs'.extBut b o (Nat.ne_of_lt (Heap.lt_size e)) (Heap.get?_push_of_some _ e)
    have f3 : ∀ b ∈ fp, FpOk X pins (upd H2 P (.tbl (ps ++ more))) b ∧ b < h3.objs.size := fun b hb => by
      obtain ⟨o, e, _⟩ := T.obj _ _ st2 b hb
      refine ⟨⟨?_, (f2 b hb).2⟩, Heap.lt_size (keep3 b o (nP b hb) e)⟩
      rw [upd_ne (nP b hb)]
      exact (f2 b hb).1
    have st3 : tn 0 h3 := T.keep _ _ _ st2 fun b hb o e => keep3 b o (nP b hb) e
    refine hQ _ _ ?_
    have Ig := gen_start (own := own) (code := code) (it := it) (h' := h') (tk := tk + 1 + 1 + 1) (go := { cls := .type "generator", data := .fields #[.int s2.gens.size 0, .str "<genexpr>" (tk + 1), .str (X.env.qual ++ "<genexpr>") (tk + 1 + 1)] })
      (gs := s2.gens.push (.fresh (.compStart (.GeneratorExp elt [⟨tg, iter, [], 0⟩] scope gpos) 0 (.ref it) .none (genEnv scope (cloFrom X.env.cells scope.names []) h3.objs.size code builtinsNs X.env)))) hc I3 S f3 hn' keep' hsz (AllBare.push I2.bare rfl) (fun v z => by cases z) rfl
    have isG : ∀ h : Heap, h.get? h'.objs.size = some ({ cls := .type "generator", data := .fields #[.int s2.gens.size 0, .str "<genexpr>" (tk + 1), .str (X.env.qual ++ "<genexpr>") (tk + 1 + 1)] } : Obj) → h.IsGen h'.objs.size s2.gens.size := fun h e => ⟨_, _, _, e, rfl, rfl, rfl⟩
    have stg : tn 0 (h'.push ({ cls := .type "generator", data := .fields #[.int s2.gens.size 0, .str "<genexpr>" (tk + 1), .str (X.env.qual ++ "<genexpr>") (tk + 1 + 1)] } : Obj)) := T.keep _ _ _ st3 fun b _ o e => Heap.get?_push_of_some _ (keep' b o e)
    refine ⟨gcx X { s2 with heap := h3, toks := tk } (upd H2 P (.tbl (ps ++ more))) scope h3.objs.size code builtinsNs own fp, [(h'.objs.size, ({ cls := .type "generator", data := .fields #[.int s2.gens.size 0, .str "<genexpr>" (tk + 1), .str (X.env.qual ++ "<genexpr>") (tk + 1 + 1)] } : Obj))], σ ++ List.replicate own.length none, m0 + 1, s2.gens.size, _, rfl, rfl, isG _ (Heap.get?_push_size _ rfl), Ig.nolimit, Array.getElem?_push_size .., fun s hp => isG _ (hp (h'.objs.size, ({ cls := .type "generator", data := .fields #[.int s2.gens.size 0, .str "<genexpr>" (tk + 1), .str (X.env.qual ++ "<genexpr>") (tk + 1 + 1)] } : Obj)) (List.mem_singleton.mpr rfl)), fun s' z => ?_, Ig.bare, fun H s' I' => ?_⟩
    · have Ig' := inv_woken Ig z
      have st' : tn 0 s'.heap := by rw [z.heap]; exact stg
      refine seg_allStart (Xg := gcx X _ _ scope h3.objs.size code builtinsNs own fp) (seg_all (Xg := gcx X _ _ scope h3.objs.size code builtinsNs own fp) (tn := tn) (fp := fp) (k := σ.length) (W := W) over_gen rfl rfl rfl rfl S.co T (hgt _ _ _ _ _) (hel _ _ _ _ _) (fun b hb p hp => ?_) ?_ turn m0 (m0 + 1) 0 s' s' _ (Nat.lt_succ_self _) w0 Ig' st' fun b hb => (f3 b hb).1.1) (fun A Q E hq => T.self A 0 s' Q E st' hq)
      · rw [List.mem_singleton.mp hp]
        show h'.objs.size ≠ b
        have q := (f3 b hb).2
        rw [hsz]
        exact Nat.ne_of_gt (Nat.lt_succ_of_lt q)
      · rw [List.take_left', List.length_append, List.length_replicate, Nat.add_sub_cancel_left]
        rfl
    · exact I3.call' (ch := fp) I'.os I'.base I'.hok I'.bare fun b hb => ⟨(f3 b hb).1.2.2.2.1, (f3 b hb).1.2.1, (f3 b hb).1.2.2.2.2.1, (f3 b hb).1.2.2.2.2.2⟩
  cases hf : codeAmong gpos ps.toList with
  | none =>
    refine wpAny_genexprCodeX hcode (cd.code hPs ht) (cd.tab hPs) hf fun c' h' tk hx hge hlt hco' _ htab' _ => ?_
    obtain ⟨o1, vs, f1, tf, fl, tg', inF, tx, tt, op, _, _, _, _, _, _, _, _, _, htr, _⟩ := hco'
    exact cont _ h' tk _ hx htab'.2 htr
  | some cv =>
    refine wpAny_genexprCode_hit hcode (cd.code hPs ht) hf ?_
    exact cont cv s2.heap s2.toks #[] (Heap.ExtBut.refl _ _) (by simpa using hPs) (by simpa using ht)

theorem pe_allG {c P : Addr} {elt tg iter : Expr} {p pos gpos : Pos} {scope : Scope} {own : List Str} {wi : TI} {g : TG} {te : TE} {k : Nat} (hr : Room k X.A) (hg : Gl X "all") (hm : X.mg "all" = none) (hb : bootBuiltins "all" = some (.builtin "all"))
    (hc : X.calm = true) (TB : GxR.TabB X.base X.mg c P) (hcode : X.env.code = .ref c) (S : GenOk X.N X.env.scope scope own) (hi : PI X tg iter wi)
    (hgt : ∀ (s : Shared) (H : Hp) (C : Addr) (code : Value) (fp : List Addr), PG (gcx X s H scope C code builtinsNs own fp) tg g) (hel : ∀ (s : Shared) (H : Hp) (C : Addr) (code : Value) (fp : List Addr), PE (gcx X s H scope C code builtinsNs own fp) elt te)
    (hs : ∀ v, genFold iter X.env v = pure v := by intro _; rfl)
    (he : starEach [.GeneratorExp elt [⟨tg, iter, [], 0⟩] scope gpos] X.env = (false, eval (.GeneratorExp elt [⟨tg, iter, [], 0⟩] scope gpos) X.env) :: starEach [] X.env := by rfl) :
    PE X (.Call (.Name "all" p) [.GeneratorExp elt [⟨tg, iter, [], 0⟩] scope gpos] [] pos) (tQG P wi g te own.length false) := by
  refine ⟨fun pins s σ H Q I h => ?_⟩
  have hdep : X.A.depth < recursionLimit := by have := hr.dp; omega
  refine wpAny_Call_Name_kw (ld_blt I hg hm hb ?_)
  refine PyProof.Rows.callWith_builtin1 ?_ he (by rfl)
  rw [he]
  show wpAny _ _ (spliced ((false, eval (.GeneratorExp elt [⟨tg, iter, [], 0⟩] scope gpos) X.env) :: backTo pos (starEach [] X.env))) _ _ s
  refine Calls.spliced_cons (gen_ready hr.hd hdep hc TB hcode S hi hgt hel hs I h fun a s5 hR => ?_)
  refine Calls.spliced_nil ?_
  obtain ⟨Xg, pg, σg, n, gi, c5, eP, eW, isG, lim, hgs, hgen, hseg, hbare, back⟩ := hR
  refine call_function_tree F.kind_all F.plain_all F.entry_all (F.args_all1 _) ?_
  unfold Builtin.«all»
  refine wpAny_bind (m := oneArg "all" _) (wpAny_pure ?_)
  refine wpAny_bind (wpAny_pyIter_gen isG ?_)
  rw [← eP, ← eW]
  refine wpAny_pure ⟨plainId_quiet F.plain_all_loop _, all_drain (Xg := Xg) (pins := pg) (σg := σg) (Qe := fun H => Q (.bl true) H) (Qf := fun H => Q (.bl false) H) hr.hd hdep hgen (fun H s' I' q => ?_) (fun H s' I' q => ?_) n s5 isG lim ⟨_, hgs, rfl, ?_⟩⟩
  · exact ⟨.bl true, H, back H s' I', rfl, q⟩
  · exact ⟨.bl false, H, back H s' I', rfl, q⟩
  · rw [eP, eW]
    exact hseg _ ⟨rfl, rfl, allBare_setGen hbare rfl⟩
theorem pe_anyG {c P : Addr} {elt tg iter : Expr} {p pos gpos : Pos} {scope : Scope} {own : List Str} {wi : TI} {g : TG} {te : TE} {k : Nat} (hr : Room k X.A) (hg : Gl X "any") (hm : X.mg "any" = none)
    (hc : X.calm = true) (TB : GxR.TabB X.base X.mg c P) (hcode : X.env.code = .ref c) (S : GenOk X.N X.env.scope scope own) (hi : PI X tg iter wi)
    (hgt : ∀ (s : Shared) (H : Hp) (C : Addr) (code : Value) (fp : List Addr), PG (gcx X s H scope C code builtinsNs own fp) tg g) (hel : ∀ (s : Shared) (H : Hp) (C : Addr) (code : Value) (fp : List Addr), PE (gcx X s H scope C code builtinsNs own fp) elt te)
    (hs : ∀ v, genFold iter X.env v = pure v := by intro _; rfl)
    (he : starEach [.GeneratorExp elt [⟨tg, iter, [], 0⟩] scope gpos] X.env = (false, eval (.GeneratorExp elt [⟨tg, iter, [], 0⟩] scope gpos) X.env) :: starEach [] X.env := by rfl) :
    PE X (.Call (.Name "any" p) [.GeneratorExp elt [⟨tg, iter, [], 0⟩] scope gpos] [] pos) (tQG P wi g te own.length true) := by
  refine ⟨fun pins s σ H Q I h => ?_⟩
  have hdep : X.A.depth < recursionLimit := by have := hr.dp; omega
  refine wpAny_Call_Name_kw (ld_blt I hg hm boot_any ?_)
  refine PyProof.Rows.callWith_builtin1 ?_ he (by rfl)
  rw [he]
  show wpAny _ _ (spliced ((false, eval (.GeneratorExp elt [⟨tg, iter, [], 0⟩] scope gpos) X.env) :: backTo pos (starEach [] X.env))) _ _ s
  refine Calls.spliced_cons (gen_ready hr.hd hdep hc TB hcode S hi hgt hel hs I h fun a s5 hR => ?_)
  refine Calls.spliced_nil ?_
  obtain ⟨Xg, pg, σg, n, gi, c5, eP, eW, isG, lim, hgs, hgen, hseg, hbare, back⟩ := hR
  refine call_function_tree F.kind_any F.plain_any F.entry_any (F.args_any1 _) ?_
  unfold Builtin.«any»
  refine wpAny_bind (m := oneArg "any" _) (wpAny_pure ?_)
  refine wpAny_bind (wpAny_pyIter_gen isG ?_)
  rw [← eP, ← eW]
  refine wpAny_pure ⟨plainId_quiet F.plain_any_loop _, any_drain (Xg := Xg) (pins := pg) (σg := σg) (Qe := fun H => Q (.bl false) H) (Qf := fun H => Q (.bl true) H) hr.hd hdep hgen (fun H s' I' q => ?_) (fun H s' I' q => ?_) n s5 isG lim ⟨_, hgs, rfl, ?_⟩⟩
  · exact ⟨.bl false, H, back H s' I', rfl, q⟩
  · exact ⟨.bl true, H, back H s' I', rfl, q⟩
  · rw [eP, eW]
    exact hseg _ ⟨rfl, rfl, allBare_setGen hbare rfl⟩
end
end Kb
set_option Elab.async false
set_option linter.all false
set_option maxRecDepth 100000
set_option maxHeartbeats 2000000
namespace Kb
open PySem PySem.Spec PyProof.Rows L2 LamX
/-- all but P's table stays -/
def ExtP (P : Addr) (H H' : Hp) : Prop := ∀ b o, b ≠ P → H b = some o → H' b = some o
section
variable {X : Cx} {pins : List (Addr × Obj)} {σ : L2.St} {H : Hp} {s : Shared}
theorem lam_make1 {c P : Addr} {params : Arguments} {body : Expr} {scope : Scope} {pos : Pos} {E : Value → Shared → Prop} {Q : Value → Shared → Prop} (I : Inv X pins σ H s) (TB : TabB X.base X.mg c P) (hcode : X.env.code = .ref c)
    (hT : TabS H P (X.env.qual ++ "<lambda>")) (hdef : defaultsOf params X.env = ([], [])) (hfree : ∀ y ∈ scope.names, y.2 = .free → ∃ c, X.env.cells.lookup y.1 = some c)
    (h : ∀ (f c' : Addr) (pm ctv : Value) (H1 : Hp) (s' : Shared), Inv X pins σ H1 s' → ExtP P H H1 → TabS H1 P (X.env.qual ++ "<lambda>") →
      s'.heap.get? f = some (PySem.W.kla_obj "<lambda>" (X.env.qual ++ "<lambda>") params body scope (cloFrom X.env.cells scope.names []) pm c' ctv) → H1 f = none → f ∉ frs X.stack → H1 c' = some (CodeO c' (X.env.qual ++ "<lambda>")) → Q (.ref f) s') :
    wpAny (model X.prog X.w) X.A (eval (.Lambda params body scope pos) X.env) Q E s := by
  obtain ⟨ps, hP, ht, ha⟩ := id hT
  refine PySem.W.kla_eval hdef ?_
  have bP : s.heap.BuiltinsAt X.mg P := TB.bm.keeps I.bk
  have hP' : s.heap.get? P = some { cls := .none, data := .fields ps } := I.hok P _ hP
  have nofr : ∀ f, s.heap.objs.size ≤ f → f ∉ frs X.stack := fun f hf z => by
    rcases List.mem_cons.mp (I.stkSub _ z) with e | e
    · have h1 := I.lt
      rw [← e] at h1
      exact Nat.lt_irrefl _ (Nat.lt_of_lt_of_le h1 hf)
    · exact I.nofs hf e
  cases hc : codeAmong pos ps.toList with
  | none =>
    refine PySem.W.kla_makeFunction (mg := X.mg) (c := c) (P := P) (ps := ps) (closure_ok hfree) I.ok.glob (I.mod.glob.keeps I.bk) hcode (TB.code.keeps I.bk) hP' ht hc TB.gP bP fun c' ctv h' tk hx hge hlt hrec htb => ?_
    obtain ⟨c2, oc, vs, t, e2, hoc, hd, hv⟩ := hrec
    cases e2
    have hsz : s.heap.objs.size ≤ h'.objs.size := Nat.le_trans hge (Nat.le_of_lt hlt)
    have nC : H c' = none := I.hok.fresh hge
    have I1 := inv_table (t' := tk) (more := #[rawInt pos.line, rawInt pos.col, .ref c']) (h' := h'.push (PySem.W.kla_obj "<lambda>" (X.env.qual ++ "<lambda>") params body scope (cloFrom X.env.cells scope.names []) ((X.mg "__name__").getD .none) c' ctv)) I hP
      (fun b o hb e => Heap.get?_push_of_some _ (hx b o hb e)) (Heap.get?_push_of_some _ htb) hge ⟨oc, vs, t, Heap.get?_push_of_some _ hoc, hd, hv⟩
    have hE : ExtP P H (upd (upd H P (.tbl (ps ++ #[rawInt pos.line, rawInt pos.col, .ref c']))) c' (CodeO c' (X.env.qual ++ "<lambda>"))) := fun b o n e => by
      rw [upd_ne (ne_of_none e nC), upd_ne n]
      exact e
    have eL : (ps ++ #[rawInt pos.line, rawInt pos.col, .ref c']).toList = ps.toList ++ [rawInt pos.line, rawInt pos.col, .ref c'] := by simp
    refine h h'.objs.size c' ((X.mg "__name__").getD .none) ctv _ _ I1 hE ?_ (Heap.get?_push_size _ rfl) ?_ (nofr _ hsz) upd_same
    · refine ⟨_, by rw [upd_ne (ne_of_none hP nC), upd_same], by rw [eL]; exact PySem.TriplesOk_snoc _ _ _ _ ht, fun p' cv hcv => ?_⟩
      rw [eL] at hcv
      rcases among_app _ ht hcv with z | z
      · obtain ⟨c0, e1, e2⟩ := ha p' cv z
        exact ⟨c0, e1, hE _ _ (fun z => by rw [z, hP] at e2; exact codeO_ne ps (Option.some.inj e2).symm) e2⟩
      · exact ⟨c', z, upd_same⟩
    · have n1 : h'.objs.size ≠ c' := Nat.ne_of_gt hlt
      have n2 : h'.objs.size ≠ P := Nat.ne_of_gt (Nat.lt_of_lt_of_le (Heap.lt_size hP') hsz)
      rw [upd_ne n1, upd_ne n2]
      exact I.hok.fresh hsz
  | some cv =>
    obtain ⟨c', e, hco⟩ := ha pos cv hc
    subst e
    refine PySem.W.kla_makeFunctionHit (mg := X.mg) (c := c) (P := P) (ps := ps) (closure_ok hfree) I.ok.glob (I.mod.glob.keeps I.bk) hcode (TB.code.keeps I.bk) hP' ht hc bP fun ctv h' tk hx hsz => ?_
    have I1 : Inv X pins σ H { s with heap := h'.push (PySem.W.kla_obj "<lambda>" (X.env.qual ++ "<lambda>") params body scope (cloFrom X.env.cells scope.names []) ((X.mg "__name__").getD .none) c' ctv), toks := tk } := I.kept fun b o e => Heap.get?_push_of_some _ (hx b o e)
    exact h h'.objs.size c' ((X.mg "__name__").getD .none) ctv H _ I1 (fun _ _ _ e => e) hT (Heap.get?_push_size _ rfl) (I.hok.fresh hsz) (nofr _ hsz) hco
end
def tLam1 (P : Addr) (q : Str) (TT : (XK → Hp → VK → Prop) → Hp → VK → Prop) (t : XK → TE) : TE := fun σ H Q => TabS H P q ∧ ∀ H1, ExtP P H H1 → TabS H1 P q → TT (fun E H' Q' => t E σ H' Q') H1 Q
section
variable {X : Cx}
theorem pe_lamcall1 {TT : (XK → Hp → VK → Prop) → Hp → VK → Prop} {x a : Str} {g c P : Addr} {k : Nat} {pg : Arguments} {bg : List Stmt} {sg : Scope} {dV kV doc pm cdv ct oc : Value} {an od : Option Addr} {osl : Array (Option Value)} {Ng : List Str}
    {params : Arguments} {body : Expr} {scope : Scope} {t : XK → TE} {p lpos pos : Pos} (hg : Gl X x) (hm : X.mg x = some (.ref g)) (hk : PySem.W.keepIn X.K (.ref g) = true)
    (lk : X.K.lookup g = some ⟨oc, od, .func (PySem.W.fnOf x x pg bg sg dV kV doc pm an cdv ct), osl⟩) (hcg : PySem.W.codeIn X.K cdv x = true) (hb : L2.Binds X.K (PySem.W.fnOf x x pg bg sg dV kV doc pm an cdv ct) [a] []) (Sg : FnScope Ng [a] sg) (hNg : Ng[0]? = some a) (hva : Vis sg a)
    (hG : GivesTo X Ng x sg g cdv bg a (X.env.qual ++ "<lambda>") TT)
    (TB : TabB X.base X.mg c P) (hcode : X.env.code = .ref c) (hr : Room (k + 2) X.A) (L : LamS X.env.scope scope) (hdef : defaultsOf params X.env = ([], []))
    (hbind : ∀ (q : Str) (cl : List (Str × Addr)) (pm cv ctv : Value), bindArgs (PySem.W.kla_fn "<lambda>" q params body scope cl pm cv ctv) ⟨[], []⟩ = pure [])
    (hbody : ∀ (A : Around) (outer : List Env) (s : Shared) (H : Hp) (E : XK) (f c' : Addr), Room k (A.deeper (lamEnv X scope s.heap.objs.size f c')) → PE (lamCx X A outer s H E scope f c') body (t E))
    (hdb : (x == ("__debug__" : Str)) = false := by decide) (hd : (a == ("__debug__" : Str)) = false := by decide) (hcd : (a == ("__classdict__" : Str)) = false := by decide) :
    PE X (.Call (.Name x p) [.Lambda params body scope lpos] [] pos) (tLam1 P (X.env.qual ++ "<lambda>") TT t) := by
  refine ⟨fun pins s σ H Q I h => ?_⟩
  obtain ⟨hT, h⟩ := h
  refine wpAny_Call_Name_kw (ld_glob I hg hm ?_ hdb)
  refine PySem.W.callWith_K (h₀ := X.base) I.ok.mod.kin hk ?_ (by rfl) (by rfl)
  show wpAny _ _ (spliced ((false, eval (.Lambda params body scope lpos) X.env) :: backTo pos (starEach [] X.env))) _ _ s
  refine Calls.spliced_cons (lam_make1 I TB hcode hT hdef (L.has I.ok) fun f c' pm' ctv H1 s' I1 eN T1 hf hfn hfr hco => ?_)
  refine Calls.spliced_nil ⟨I1.kIn, ?_⟩
  have rc : codeAny (model X.prog X.w) X.A (.call (.ref g) ⟨[.ref f], []⟩) (CR C8.CX0 X.stack X.prog X.w H1 s' Q C8.E0) s' := by
    refine run_ofS (N := Ng) (ps := [a]) (us := [.ref f]) (vs := [.ref f]) lk hcg Sg hr I1.env0 (hb s' [.ref f] I1.kIn rfl) (.cons rfl .nil) rfl fun hr' => ?_
    obtain ⟨t', ht', hq'⟩ := hG f c' s' H1 Q (fun E H' Q' => t E σ H' Q') (fun W pn xe E p1 p2 tk hW => pe_act (i := 0) I1 L hf hfn hfr (hbind _ _ _ _ _) tk hW hr' (fun A outer s H hr2 => hbody A outer s H E f c' hr2) hNg hva hd hcd) hco (h H1 eN T1)
    exact ⟨t', ht'.nox, hq'⟩
  refine wpAny_call (codeAny_mono rc fun r s2 hq => ?_)
  cases r with
  | error e => exact (show False from hq).elim
  | ok fl =>
    cases fl with
    | ret u => exact I1.after hq
    | next => exact False.elim hq
    | brk => exact False.elim hq
    | cont => exact False.elim hq
/-- _law_caught: what the act gives, or the error that it raises -/
def TCaught (K : PySem.W.Frag) (CL : Addr) : (XK → Hp → VK → Prop) → Hp → VK → Prop := fun tl H Q =>
  tl (fun cls d H' => PySem.W.exmOne K cls (.ref CL) = some true ∧ ∀ a, H' a = none → Q (.ref a) (upd H' a (ExV cls d a))) H Q
end
end Kb
set_option Elab.async false
set_option linter.all false
set_option maxRecDepth 100000
set_option maxHeartbeats 2000000
namespace Kb
open PySem PySem.Spec PyProof.Rows L2
/-! ### zip of two of lists, tuples, texts, in any mix -/
inductive Sc where
  | lst (a : Addr) (xs : List V) | tup (a : Addr) (xs : List V) | txt (z : Str)
def Sc.val : Sc → Nat → Option V
  | .lst _ xs, i => xs[i]?
  | .tup _ xs, i => xs[i]?
  | .txt z, i => (z.cps[i]?).map fun c => .str ⟨#[c]⟩
def Sc.len : Sc → Nat
  | .lst _ xs => xs.length
  | .tup _ xs => xs.length
  | .txt z => z.cps.size
def Sc.ok (K : PySem.W.Frag) (H : Hp) : Sc → Prop
  | .lst a xs => SqL K H a xs
  | .tup a xs => SqT K H a xs
  | .txt _ => True
def Sc.v : Sc → V
  | .lst a _ => .ref a
  | .tup a _ => .ref a
  | .txt z => .str z
def Sc.at : Sc → Addr → Nat → Heap → Prop
  | .lst a _, it, i, h => h.IsListIter it a i
  | .tup a _, it, i, h => h.IsTupleIter it a i
  | .txt z, it, i, h => ∃ t, h.IsStrIter it (strIterType z) z t i
def Sc.below : Sc → Nat → Prop
  | .lst a _, N => a < N
  | .tup a _, N => a < N
  | .txt _, _ => True
theorem Sc.at_obj {S : Sc} {it : Addr} {i : Nat} {h : Heap} (x : S.at it i h) : ∃ o, h.get? it = some o ∧ ∀ v, o.data ≠ .cell v := by
  cases S with
  | lst a xs => obtain ⟨o, e, _, d⟩ := x; exact ⟨o, e, fun v z => by rw [d] at z; cases z⟩
  | tup a xs => obtain ⟨o, e, _, d⟩ := x; exact ⟨o, e, fun v z => by rw [d] at z; cases z⟩
  | txt z => obtain ⟨t, o, e, _, d⟩ := x; exact ⟨o, e, fun v z => by rw [d] at z; cases z⟩
theorem Sc.at_keep {S : Sc} {it : Addr} {i : Nat} {h h' : Heap} (x : S.at it i h) (k : ∀ o, h.get? it = some o → h'.get? it = some o) : S.at it i h' := by
  cases S with
  | lst a xs => obtain ⟨o, e, r⟩ := x; exact ⟨o, k o e, r⟩
  | tup a xs => obtain ⟨o, e, r⟩ := x; exact ⟨o, k o e, r⟩
  | txt z => obtain ⟨t, o, e, r⟩ := x; exact ⟨t, o, k o e, r⟩
section
variable {X : Cx} {pins : List (Addr × Obj)} {σ : L2.St} {H : Hp} {s : Shared}
theorem Sc.draws {S : Sc} {it : Addr} {i N : Nat} {A : Around} (I : Inv X pins σ H s) (q : S.ok X.K H) (hb : S.below N) (hN : N ≤ it) (hh : A.handled = none) (x : S.at it i s.heap) :
    ∃ (fp : List Addr) (P : Nat → Value → Prop) (St : Nat → Heap → Prop), Draws X.prog X.w A it (it :: fp) S.len P St ∧ St i s.heap ∧ (∀ b ∈ fp, b < N) ∧ (∀ j u, P j u → ∃ v, S.val j = some v ∧ RelV v u) ∧ ∀ j h, St j h → S.at it j h := by
  cases S with
  | lst a xs =>
    obtain ⟨its, rv, p, _⟩ := I.list q
    have ne : a ≠ it := Nat.ne_of_lt (Nat.lt_of_lt_of_le hb hN)
    have el : its.toArray.size = xs.length := by rw [List.size_toArray]; exact rv.length.symm
    refine ⟨[a], fun i v => its.toArray[i]? = some v, fun i h => h.IsListIter it a i ∧ h.IsList a its.toArray, (by show Draws _ _ _ _ _ xs.length _ _; rw [← el]; exact Draws.list hh it a ne its.toArray), ⟨x, p.isList⟩, fun b hb' => by rw [List.mem_singleton.mp hb']; exact hb, fun j u hu => ?_, fun j h z => z.1⟩
    have hu' : its[j]? = some u := by simpa using hu
    cases e : xs[j]? with
    | none => rw [rv.none_of e] at hu'; cases hu'
    | some v =>
      obtain ⟨u', e1, e2⟩ := rv.get e
      rw [e1] at hu'
      cases hu'
      exact ⟨v, e, e2⟩
  | tup a xs =>
    obtain ⟨its, rv, p, _⟩ := I.tuple q
    have ne : a ≠ it := Nat.ne_of_lt (Nat.lt_of_lt_of_le hb hN)
    have el : its.toArray.size = xs.length := by rw [List.size_toArray]; exact rv.length.symm
    have pt : s.heap.IsTuple a its.toArray := by
      obtain ⟨o, e, c, n, d⟩ := p
      exact ⟨o, e, c, n, d⟩
    refine ⟨[a], fun i v => its.toArray[i]? = some v, fun i h => h.IsTupleIter it a i ∧ h.IsTuple a its.toArray, (by show Draws _ _ _ _ _ xs.length _ _; rw [← el]; exact Draws.tuple hh it a ne its.toArray), ⟨x, pt⟩, fun b hb' => by rw [List.mem_singleton.mp hb']; exact hb, fun j u hu => ?_, fun j h z => z.1⟩
    have hu' : its[j]? = some u := by simpa using hu
    cases e : xs[j]? with
    | none => rw [rv.none_of e] at hu'; cases hu'
    | some v =>
      obtain ⟨u', e1, e2⟩ := rv.get e
      rw [e1] at hu'
      cases hu'
      exact ⟨v, e, e2⟩
  | txt z =>
    obtain ⟨t, x⟩ := x
    refine ⟨[], fun i v => ∃ c u, z.cps[i]? = some c ∧ v = .str ⟨#[c]⟩ u, fun i h => h.IsStrIter it (strIterType z) z t i, Draws.text hh it z t, x, fun b hb' => (by cases hb'), fun j u hu => ?_, fun j h y => ⟨t, y⟩⟩
    obtain ⟨c, t', e, rfl⟩ := hu
    exact ⟨.str ⟨#[c]⟩, by show (z.cps[j]?).map _ = _; rw [e]; rfl, t', rfl⟩
end
def Itzz (K : PySem.W.Frag) (S1 S2 : Sc) : It where
  go i H := S1.ok K H ∧ S2.ok K H ∧ i < min S1.len S2.len
  yld i H v H' := ∃ T x y, v = .ref T ∧ H T = none ∧ H' = upd H T (.tup [x, y]) ∧ S1.val i = some x ∧ S2.val i = some y
  stop i H := S1.ok K H ∧ S2.ok K H ∧ i = min S1.len S2.len
theorem turn_zz {P : Program} {w : World} {K : PySem.W.Frag} {elts : List Expr} {kk : Nat} {tpos : Pos} {S1 S2 : Sc} {N : Nat} (b1 : S1.below N) (b2 : S2.below N) :
    Turn P w K (.Tuple elts kk tpos) (Itzz K S1 S2) [N + 4, N + 2, N + 3, N, N + 1] (N + 4) (fun i h => IsZip h (N + 4) (N + 2) (N + 3) .none ∧ IsTupOf2 h (N + 2) (.ref N) (.ref (N + 1)) ∧ (∃ a1 a2, IsTupOf2 h (N + 3) a1 a2) ∧ S1.at N i h ∧ S2.at (N + 1) i h) where
  mem := by simp
  obj := fun i h st c hc => by
    obtain ⟨hz, hTI, ⟨x, y, hTO⟩, h1, h2⟩ := st
    have e' : c = N + 4 ∨ c = N + 2 ∨ c = N + 3 ∨ c = N ∨ c = N + 1 := by simpa using hc
    rcases e' with q | q | q | q | q
    · rw [q]; exact ⟨_, hz, fun v q => nomatch q⟩
    · rw [q]; exact ⟨_, hTI, fun v q => nomatch q⟩
    · rw [q]; exact ⟨_, hTO, fun v q => nomatch q⟩
    · rw [q]; exact Sc.at_obj h1
    · rw [q]; exact Sc.at_obj h2
  keep := fun i h h' st k => by
    obtain ⟨hz, hTI, ⟨x, y, hTO⟩, h1, h2⟩ := st
    exact ⟨k (N + 4) (by simp) _ hz, k (N + 2) (by simp) _ hTI, ⟨x, y, k (N + 3) (by simp) _ hTO⟩, Sc.at_keep h1 fun o q => k N (by simp) o q, Sc.at_keep h2 fun o q => k (N + 1) (by simp) o q⟩
  item := by
    intro X hP hw hK hc i pins s σ H E I hf st hg
    subst hP hw hK
    obtain ⟨hz, hTI, hTO, h1, h2⟩ := st
    obtain ⟨o1, o2, hi⟩ := hg
    have hh : X.A.in1.handled = none := I.ok.hd hc
    obtain ⟨f1, P1, St1, D1, s1, l1, v1, t1⟩ := Sc.draws (A := X.A.in1) I o1 b1 (Nat.le_refl N) hh h1
    obtain ⟨f2, P2, St2, D2, s2, l2, v2, t2⟩ := Sc.draws (A := X.A.in1) I o2 b2 (Nat.le_succ N) hh h2
    have G := GoesN.zip2 (elts := elts) (x1 := kk) (pos := tpos) (zip_sep2 l1 l2) D1 D2
    have hlt : ∀ c ∈ [N + 4, N + 2, N + 3, N, N + 1], c < s.heap.objs.size := fun c hcm => by
      have e' : c = N + 4 ∨ c = N + 2 ∨ c = N + 3 ∨ c = N ∨ c = N + 1 := by simpa using hcm
      obtain ⟨oa, ea, _⟩ := Sc.at_obj h1
      obtain ⟨ob, eb, _⟩ := Sc.at_obj h2
      obtain ⟨x0, y0, hTO'⟩ := hTO
      rcases e' with q | q | q | q | q
      · rw [q]; exact Heap.lt_size hz
      · rw [q]; exact Heap.lt_size hTI
      · rw [q]; exact Heap.lt_size hTO'
      · rw [q]; exact Heap.lt_size ea
      · rw [q]; exact Heap.lt_size eb
    refine wpAny_mono (G.goes i s (fun v s2 => ∃ x H', Inv X pins σ H' s2 ∧ RelV x v ∧ (Itzz X.K S1 S2).yld i H x H' ∧ (IsZip s2.heap (N + 4) (N + 2) (N + 3) .none ∧ IsTupOf2 s2.heap (N + 2) (.ref N) (.ref (N + 1)) ∧ (∃ a1 a2, IsTupOf2 s2.heap (N + 3) a1 a2) ∧ S1.at N (i + 1) s2.heap ∧ S2.at (N + 1) (i + 1) s2.heap) ∧ ∀ b ∈ [N + 4, N + 2, N + 3, N, N + 1], H' b = none) E hi ⟨hz, hTI, hTO, s1, s2⟩ fun v h' tk hY hst hk _ => ?_) (fun r s1 q => q) fun _ _ q => q
    obtain ⟨T, u1, u2, rfl, hnew, p1, p2, oT, eT, cT, nT, dT⟩ := hY
    obtain ⟨z', TI', TO', s1', s2'⟩ := hst
    obtain ⟨x, ex, rx⟩ := v1 i u1 p1
    obtain ⟨y, ey, ry⟩ := v2 i u2 p2
    have new : ObjOk X.prog X.w (upd H T (.tup [x, y])) h' T (.tup [x, y]) := ⟨by show 2 ≤ sizeLine; decide, [u1, u2], .cons rx (.cons ry .nil), ⟨oT, eT, cT, nT, dT⟩⟩
    have I1 : Inv X pins σ (upd H T (.tup [x, y])) { s with heap := h', toks := tk } :=
      I.turnedNew (t' := tk) (ch := [N + 4, N + 2, N + 3, N, N + 1]) (fun c o hb q => hk c o (fun q' => hb (by
        have e' : c = N + 4 ∨ c = N + 3 ∨ c = N ∨ c = N + 1 := by simpa using q'
        rcases e' with z | z | z | z <;> simp [z])) q) hf hnew new
    exact ⟨.ref T, _, I1, rfl, ⟨T, x, y, rfl, I.hok.fresh hnew, rfl, ex, ey⟩, ⟨z', TI', TO', t1 _ _ s1', t2 _ _ s2'⟩, fun c hcm => by
      rw [upd_ne (Nat.ne_of_lt (Nat.lt_of_lt_of_le (hlt c hcm) hnew))]
      exact (hf c hcm).1⟩
  done := by
    intro X hP hw hK hc i pins s σ H E I hf st hg
    subst hP hw hK
    obtain ⟨hz, hTI, hTO, h1, h2⟩ := st
    obtain ⟨o1, o2, rfl⟩ := hg
    have hh : X.A.in1.handled = none := I.ok.hd hc
    obtain ⟨f1, P1, St1, D1, s1, l1, v1, t1⟩ := Sc.draws (A := X.A.in1) I o1 b1 (Nat.le_refl N) hh h1
    obtain ⟨f2, P2, St2, D2, s2, l2, v2, t2⟩ := Sc.draws (A := X.A.in1) I o2 b2 (Nat.le_succ N) hh h2
    have G := GoesN.zip2 (elts := elts) (x1 := kk) (pos := tpos) (zip_sep2 l1 l2) D1 D2
    refine G.stops s (fun s' => Inv X pins σ H s') E ⟨hz, hTI, hTO, s1, s2⟩ fun h' tk hk _ => ?_
    exact I.turnedL (t' := tk) (ch := [N + 4, N + 2, N + 3, N, N + 1]) (fun c o hb q => hk c o (fun q' => hb (by
        have e' : c = N + 4 ∨ c = N + 3 ∨ c = N ∨ c = N + 1 := by simpa using q'
        rcases e' with z | z | z | z <;> simp [z])) q) hf
  self := fun _ _ _ _ _ st h => wpAny_pyIter_zip st.1 h
def iZipU (K : PySem.W.Frag) (ta : TA) : TI := fun σ H R => ta σ H fun vs H1 => ∃ S1 S2 : Sc, vs = [S1.v, S2.v] ∧ S1.ok K H1 ∧ S2.ok K H1 ∧ R (Itzz K S1 S2) H1

section
variable {X : Cx} {pins : List (Addr × Obj)} {σ : L2.St} {H : Hp} {s : Shared}
theorem Sc.begins {S : Sc} {u : Value} (I : Inv X pins σ H s) (q : S.ok X.K H) (r : RelV S.v u) : ∃ (o : Obj) (Hq : Heap → Prop), Begins u o Hq ∧ Hq s.heap ∧ S.below s.heap.objs.size ∧ ∀ (it : Addr) (h : Heap), h.get? it = some o → S.at it 0 h := by
  cases S with
  | lst a xs =>
    obtain ⟨its, rv, p, _⟩ := I.list q
    cases (show u = Value.ref a from r)
    exact ⟨_, _, begins_list a its.toArray, p.isList, p.lt, fun it h e => ⟨_, e, rfl, rfl⟩⟩
  | tup a xs =>
    obtain ⟨its, rv, p, _⟩ := I.tuple q
    cases (show u = Value.ref a from r)
    have pt : s.heap.IsTuple a its.toArray := by
      obtain ⟨o, e, c, n, d⟩ := id p
      exact ⟨o, e, c, n, d⟩
    exact ⟨_, _, begins_tuple a its.toArray, pt, p.lt, fun it h e => ⟨_, e, rfl, rfl⟩⟩
  | txt z =>
    obtain ⟨t, rfl⟩ := (show ∃ t, u = Value.str z t from r)
    exact ⟨_, _, begins_text z t, trivial, trivial, fun it h e => ⟨t, _, e, rfl, rfl⟩⟩
end
theorem pi_zipU {X : Cx} {e e2 : Expr} {ta : TA} {p pos tpos : Pos} {elts : List Expr} {kk : Nat} (hg : Gl X "zip") (hm : X.mg "zip" = none) (ha : PA X [e, e2] ta)
    (hs : starEach [e, e2] X.env = (false, eval e X.env) :: starEach [e2] X.env := by rfl) (hpl : (backTo pos (starEach [e2] X.env)).any (·.1) = false := by rfl) :
    PI X (.Tuple elts kk tpos) (.Call (.Name "zip" p) [e, e2] [] pos) (iZipU X.K ta) := by
  refine ⟨fun pins s σ H R I h => ?_⟩
  refine Call_ (ld_blt I hg hm PyProof.Rows.boot_zip (PyProof.Rows.callWith_type1 (thn (ha.run pos pins s σ H _ I h) fun us s1 ⟨vs, H1, I1, r1, q1⟩ => ?_) hs hpl))
  obtain ⟨S1, S2, ex, hq1, hq2, q⟩ := q1
  subst ex
  obtain ⟨u1, u2, rfl, ru1, ru2⟩ := vals2 r1
  obtain ⟨o1, Hq1, B1, c1, l1, a1⟩ := Sc.begins I1 hq1 ru1
  obtain ⟨o2, Hq2, B2, c2, l2, a2⟩ := Sc.begins I1 hq2 ru2
  refine zip_begins2 B1 B2 c1 c2 fun h' hz hTI hTO h1 h2 hsz hk => wpAny_pyIter_zip hz ?_
  have I2 : Inv X pins σ H1 { s1 with heap := h' } := I1.kept (t' := s1.toks) hk
  refine ⟨s1.heap.objs.size + 4, [s1.heap.objs.size + 4, s1.heap.objs.size + 2, s1.heap.objs.size + 3, s1.heap.objs.size, s1.heap.objs.size + 1], _, _, H1, rfl, I2, turn_zz l1 l2, ⟨hz, hTI, ⟨_, _, hTO⟩, a1 _ _ h1, a2 _ _ h2⟩, fun c hcm => ?_, q⟩
  have e' : c = s1.heap.objs.size + 4 ∨ c = s1.heap.objs.size + 2 ∨ c = s1.heap.objs.size + 3 ∨ c = s1.heap.objs.size ∨ c = s1.heap.objs.size + 1 := by simpa using hcm
  have hle : s1.heap.objs.size ≤ c := by
    rcases e' with z | z | z | z | z
    · rw [z]; exact Nat.le_add_right _ _
    · rw [z]; exact Nat.le_add_right _ _
    · rw [z]; exact Nat.le_add_right _ _
    · rw [z]; exact Nat.le_refl _
    · rw [z]; exact Nat.le_add_right _ _
  exact I1.fpOk hle (I1.hok.fresh hle)
end Kb
set_option Elab.async false
set_option linter.all false
set_option maxRecDepth 100000
set_option maxHeartbeats 2000000
namespace Kb
open PySem PySem.Spec PyProof.Rows L2
/-! ### dicts of the written part, keys ints or texts: in, d[k], d.items() -/
def entOk (w : World) (e : DictEntry) (p : Key × V) : Prop := keyIs p.1 e.key = true ∧ e.hash = keyH w p.1 ∧ RelV p.2 e.val
structure KD (w : World) (K : PySem.W.Frag) (d : Addr) (kvs : List (Key × V)) : Prop where
  at_ : ∃ (es : Array DictEntry) (n : Nat), K.lookup d = some ⟨.type "dict", none, .dict es n, #[]⟩ ∧ Paired (entOk w) es.toList kvs
  low : (d == sysModules) = false
  nd : (kvs.map (·.1)).Nodup
theorem kd_vals {P : Program} {w : World} : ∀ {es : List DictEntry} {kvs : List (Key × V)}, Paired (entOk w) es kvs → ∃ vs : List (Key × Value), KV kvs vs ∧ Pairs (mixKind P w) es vs ∧ vs.map (·.1) = kvs.map (·.1) ∧ ∀ e ∈ es, ∃ k, (mixKind P w).is k e.key = true ∧ e.hash = (mixKind P w).hash k
  | _, _, .nil => ⟨[], .nil, .nil, rfl, fun _ h => nomatch h⟩
  | _, _, .cons (a := e) (b := p) h r => by
    obtain ⟨vs, h1, h2, h3, h4⟩ := kd_vals (P := P) r
    obtain ⟨a1, a2, a3⟩ := h
    refine ⟨(p.1, e.val) :: vs, .cons ⟨rfl, a3⟩ h1, ?_, by rw [List.map_cons, List.map_cons, h3], fun x hx => ?_⟩
    · obtain ⟨hh, hk, hv⟩ := e
      exact .cons a1 rfl h2
    · rcases List.mem_cons.mp hx with z | z
      · rw [z]
        exact ⟨p.1, a1, a2⟩
      · exact h4 x z
theorem KD.dictAt {P : Program} {w : World} {K : PySem.W.Frag} {d : Addr} {kvs : List (Key × V)} {h : Heap} (D : KD w K d kvs) (X : K.In h) : ∃ (ep : Nat) (vs : List (Key × Value)), KV kvs vs ∧ h.DictAt (mixKind P w) d vs ep := by
  obtain ⟨es, n, hl, hp⟩ := D.at_
  obtain ⟨vs, h1, h2, h3, h4⟩ := kd_vals (P := P) hp
  exact ⟨n, vs, h1, _, es, X _ _ hl, ⟨rfl, rfl, rfl⟩, rfl, fun e he => h4 e (Array.mem_toList_iff.mpr he), h2, by rw [h3]; exact D.nd⟩
def rInK (w : World) (K : PySem.W.Frag) (neg : Bool) : R2 := fun x y H Q => ∃ d kvs k, x = kV k ∧ y = .ref d ∧ KD w K d kvs ∧ Q (.bl (if neg then !(valV kvs k).isSome else (valV kvs k).isSome)) H
def rGetK (w : World) (K : PySem.W.Frag) : R2 := fun x y H Q => ∃ d kvs k v, x = .ref d ∧ y = kV k ∧ KD w K d kvs ∧ valV kvs k = some v ∧ Q v H
section
variable {X : Cx}
theorem op_inK : OpR X (compareOp .In) (rInK X.w X.K false) := by
  intro pins s σ H x y v u Q I rx ry h
  obtain ⟨d, kvs, k, rfl, rfl, D, q⟩ := h
  cases (show u = Value.ref d from ry)
  obtain ⟨ep, vs, rel, dd⟩ := D.dictAt (P := X.prog) I.kIn
  refine wpAny_in_of (kV_is rx) D.low dd.dictOf.mapOf ?_
  rw [← (rel.val k).isSome_eq]
  exact ⟨.bl _, H, I.tok _, rfl, q⟩
theorem op_notInK : OpR X (compareOp .NotIn) (rInK X.w X.K true) := by
  intro pins s σ H x y v u Q I rx ry h
  obtain ⟨d, kvs, k, rfl, rfl, D, q⟩ := h
  cases (show u = Value.ref d from ry)
  obtain ⟨ep, vs, rel, dd⟩ := D.dictAt (P := X.prog) I.kIn
  refine wpAny_notIn_of (kV_is rx) D.low dd.dictOf.mapOf ?_
  rw [← (rel.val k).isSome_eq]
  exact ⟨.bl _, H, I.tok _, rfl, q⟩
theorem ix_kd : IxR X (rGetK X.w X.K) := by
  intro value slice pins s σ H x y v u Q I rx ry h hs
  obtain ⟨d, kvs, k, r, rfl, rfl, D, l, q⟩ := h
  cases (show v = Value.ref d from rx)
  obtain ⟨ep, vs, rel, dd⟩ := D.dictAt (P := X.prog) I.kIn
  obtain ⟨w', hw, rw'⟩ := RelO.some_of (v := r) (o := valueAt vs k) (by rw [← l]; exact rel.val k)
  exact tail_any dd.dictOf.typeIs slot_dict_getitem.lookup (wpAny_getItem_of (kV_is ry) dd.dictOf.mapOf hw ⟨r, H, I.tok _, rw', q⟩) hs
end
def ItKD (kvs : List (Key × V)) : It :=
  ⟨fun i H => i < kvs.length, fun i H x H' => ∃ T k v, kvs[i]? = some (k, v) ∧ x = .ref T ∧ H T = none ∧ H' = upd H T (.tup [kV k, v]), fun i H => kvs.length ≤ i⟩
theorem turn_kd {P : Program} {w : World} {K : PySem.W.Frag} {d : Addr} {kvs : List (Key × V)} {elts : List Expr} {kk : Nat} {tpos : Pos} {ep : Nat} (D : KD w K d kvs) (hep : ∀ h vs ep', K.In h → h.DictAt (mixKind P w) d vs ep' → ep' = ep) (it : Addr) :
    Turn P w K (.Tuple elts kk tpos) (ItKD kvs) [it] it (fun i h => ∃ ok ov, IsItemIter h it d i kvs.length ep ok ov) where
  mem := by simp
  obj := fun i h st b hb => by
    have e : b = it := by simpa using hb
    subst e
    obtain ⟨ok, ov, e⟩ := st
    exact ⟨_, e, fun v z => nomatch z⟩
  keep := fun i h h' st k => let ⟨ok, ov, e⟩ := st; ⟨ok, ov, k it (by simp) _ e⟩
  item := by
    intro X hP hw hK hc i pins s σ H E I hf st hi
    subst hP hw hK
    have hi : i < kvs.length := hi
    obtain ⟨ep', vs, kv, hm⟩ := D.dictAt (P := X.prog) I.kIn
    obtain rfl := hep _ _ _ I.kIn hm
    obtain ⟨⟨k, v⟩, hkv⟩ : ∃ p, kvs[i]? = some p := ⟨kvs[i], List.getElem?_eq_getElem hi⟩
    obtain ⟨u, hu, ru⟩ := kv_get kv hkv
    have hl : kvs.length = vs.length := Paired.length kv
    obtain ⟨ok, ov, he⟩ := st
    rw [hl] at he
    have hlt : it < s.heap.objs.size := Heap.lt_size he
    refine wpAny_pyNext_items_item he hm hu fun key h' hkey ho hT hz hk => ?_
    refine ⟨_, rfl, wpAny_letOwnedTupleGo_items (s := { s with heap := h' }) ho fun h'' he' sb => ?_⟩
    have hT2 : h''.get? s.heap.objs.size = some { cls := .type "tuple", data := .seq #[key, u] } := (sb.2 _ (Nat.ne_of_gt hlt)).trans hT
    have new : ObjOk X.prog X.w (upd H s.heap.objs.size (.tup [kV k, v])) h'' s.heap.objs.size (.tup [kV k, v]) :=
      ⟨by show 2 ≤ sizeLine; decide, [key, u], .cons (relV_key (show keyIs k key = true from hkey)) (.cons ru .nil), ⟨_, hT2, rfl, _, rfl⟩⟩
    have I1 : Inv X pins σ (upd H s.heap.objs.size (.tup [kV k, v])) { s with heap := h'' } :=
      I.turnedNew (t' := s.toks) (ch := [it]) (fun b ob hb e => (sb.2 b (by simpa using hb)).trans (hk b ob (by simpa using hb) e)) hf (Nat.le_refl _) new
    refine ⟨.ref s.heap.objs.size, _, I1, rfl, ⟨_, k, v, hkv, rfl, I.hok.fresh (Nat.le_refl _), rfl⟩, ⟨key, u, ?_⟩, fun b hb => ?_⟩
    · rw [hl]; exact he'
    · have e : b = it := by simpa using hb
      rw [e, upd_ne (Nat.ne_of_lt hlt)]
      exact (hf it (by simp)).1
  done := by
    intro X hP hw hK hc i pins s σ H E I hf st hi
    subst hP hw hK
    have hi : kvs.length ≤ i := hi
    obtain ⟨f0, f1, f2, f3, f4, f5⟩ := hf it (by simp)
    obtain ⟨ep', vs, kv, hm⟩ := D.dictAt (P := X.prog) I.kIn
    obtain rfl := hep _ _ _ I.kIn hm
    have hl : kvs.length = vs.length := Paired.length kv
    obtain ⟨ok, ov, he⟩ := st
    rw [hl] at he
    exact wpAny_pyNext_items_end (I.ok.hd hc) he hm (List.getElem?_eq_none (by omega)) fun h' eb => ⟨rfl, I.turned (t' := s.toks) (fun b ob hb e => eb b ob hb e) f0 f1 f3 f4 f5⟩
  self := fun A i s Q E st h => let ⟨_, _, e⟩ := st; PySem.W.kcp_self e h
def iItemsK (w : World) (K : PySem.W.Frag) (td : TE) : TI := fun σ H R => td σ H fun x H1 => ∃ d kvs, x = .ref d ∧ KD w K d kvs ∧ R (ItKD kvs) H1
theorem KD.ep {P : Program} {w : World} {K : PySem.W.Frag} {d : Addr} {kvs : List (Key × V)} {h h' : Heap} {vs vs' : List (Key × Value)} {ep ep' : Nat} (D : KD w K d kvs) (X : K.In h) (X' : K.In h') (a : h.DictAt (mixKind P w) d vs ep) (b : h'.DictAt (mixKind P w) d vs' ep') : ep' = ep := by
  obtain ⟨es, n, hl, _⟩ := D.at_
  obtain ⟨o, es1, h1, _, d1, _⟩ := a
  obtain ⟨o', es2, h2, _, d2, _⟩ := b
  rw [X _ _ hl] at h1
  rw [X' _ _ hl] at h2
  cases h1
  cases h2
  cases d1
  cases d2
  rfl
section
variable {X : Cx} {e : Expr} {td : TE} {apos cpos : Pos}
theorem pi_itemsK {elts : List Expr} {kk : Nat} {tpos : Pos} (he : PE X e td) (hbase : attributeBase e "items" X.env (eval e X.env) = eval e X.env := by rfl) (hline : (apos.endLine == cpos.line) = true := by rfl) :
    PI X (.Tuple elts kk tpos) (.Call (.Attribute e "items" apos) [] [] cpos) (iItemsK X.w X.K td) := by
  refine ⟨fun pins s σ H R I h => ?_⟩
  refine wpAny_Call_method (T := "dict") (id := "dict.items") hbase rfl hline F.plainAttrs_dict F.slot_dict_items F.type_dict_items (thn (he.run pins s σ H _ I h) fun u s1 ⟨x, H1, I1, rx, d, kvs, ex, D, q⟩ => ?_)
  subst ex
  obtain rfl : u = Value.ref d := rx
  obtain ⟨ep, vs, kv, hm⟩ := D.dictAt (P := X.prog) I1.kIn
  have hl : kvs.length = vs.length := Paired.length kv
  refine ⟨hm.dictOf.typeIs, hm.dictOf.mapOf.noDict, ?_⟩
  have I2 : Inv X pins σ H1 { s1 with heap := s1.heap.push { cls := .type "dict_items", data := .fields #[.ref d] } } := I1.kept (t' := s1.toks) fun b ob q => Heap.get?_push_of_some _ q
  have fin : wpAny (model X.prog X.w) X.A (pyIter (.ref s1.heap.objs.size)) (PIE X pins σ (.Tuple elts kk tpos) R) X.xe { s1 with heap := s1.heap.push { cls := .type "dict_items", data := .fields #[.ref d] } } := by
    refine wpAny_pyIter_items (d := d) (knd := mixKind X.prog X.w) ⟨_, Heap.get?_push_size _ rfl, rfl, rfl⟩ (hm.push _) (pi_one (tk := s1.toks) I2 _ (turn_kd D (fun h vs' ep' Xh a => D.ep I1.kIn Xh hm a) _) ⟨.none, .none, ?_⟩ q)
    rw [hl]
    exact Heap.get?_push_size _ rfl
  show wpAny _ _ (callWith cpos (.builtin "dict.items") [.ref d] [] []) _ X.xe s1
  exact method_meetsIn F.slot_dict_items F.entry_dict_items rfl (PySem.evalArgs_none ⟨rfl, hm.dictOf.typeIs, F.args_dict_items_1 _, _, meets_dict_items (mixKind X.prog X.w) d D.low, ⟨vs, hm.dictOf⟩, fin⟩)
end
end Kb
set_option Elab.async false
set_option linter.all false
set_option maxRecDepth 100000
set_option maxHeartbeats 2000000
namespace Kb
open PySem PySem.Spec PyProof.Rows L2
/-! ### what walks a list or a tuple -/
def iLT (K : PySem.W.Frag) (tl : TE) : TI := fun σ H R => tl σ H fun x H1 => ∃ a, x = .ref a ∧ (((∃ xs, SqL K H1 a xs) ∧ R (Itl K a) H1) ∨ ((∃ xs, SqT K H1 a xs) ∧ R (Itt K a) H1))
section
variable {X : Cx} {tg : Expr}
theorem pi_LT {l : Expr} {tl : TE} (hl : PE X l tl) : PI X tg l (iLT X.K tl) := by
  refine ⟨fun pins s σ H R I h => ?_⟩
  refine thn (hl.run pins s σ H _ I h) fun v s1 ⟨x, H1, I1, r1, q1⟩ => ?_
  obtain ⟨a, e, ⟨⟨xs, hq⟩, q⟩ | ⟨⟨xs, hq⟩, q⟩⟩ := q1
  · subst e
    cases r1
    obtain ⟨its, rv, p, hz⟩ := I1.list hq
    refine wpAny_pyIter_list p.isList ?_
    refine ⟨s1.heap.objs.size, [s1.heap.objs.size], _, _, H1, rfl, I1.kept (t' := s1.toks) fun b o e => Heap.get?_push_of_some _ e, turn_list a _, ⟨_, Heap.get?_push_size _ rfl, rfl, rfl⟩, fun b hb => ?_, q⟩
    have e : b = s1.heap.objs.size := by simpa using hb
    subst e
    exact I1.fpOk (Nat.le_refl _) (I1.hok.fresh (Nat.le_refl _))
  · subst e
    cases r1
    obtain ⟨its, rv, p, hz⟩ := I1.tuple hq
    refine wpAny_pyIter_tuple (show s1.heap.IsTuple a its.toArray from p) ?_
    refine ⟨s1.heap.objs.size, [s1.heap.objs.size], _, _, H1, rfl, I1.kept (t' := s1.toks) fun b o e => Heap.get?_push_of_some _ e, turn_tuple a _, ⟨_, Heap.get?_push_size _ rfl, rfl, rfl⟩, fun b hb => ?_, q⟩
    have e : b = s1.heap.objs.size := by simpa using hb
    subst e
    exact I1.fpOk (Nat.le_refl _) (I1.hok.fresh (Nat.le_refl _))
end
/-! ### defs by place -/
section
variable {P : Program} {w : World} {K : PySem.W.Frag} {mg : Str → Option Value} {base : Heap} {x qual : Str} {st : Stmt} {f : Addr} {fd : FuncData}
theorem toFun (F : FunD K x qual (defArgs st) (defBody st) (defScope st) [] [] f fd) : Fun K x qual st f fd := by
  obtain ⟨oc, od, dV, kV, doc, pm, an, cdv, ct, osl, e, lk, hcd, hD, hK⟩ := F.ex
  rcases hD with ⟨_, rfl⟩ | ⟨e, _⟩
  · exact ⟨⟨oc, od, kV, doc, pm, an, cdv, ct, osl, e, lk, hcd⟩, F.kp⟩
  · exact absurd rfl e
/-- as Fun.ok, the def's code object known -/
theorem okC {CX : CXT} {N ps : List Str} {k : Nat} {sp : Sp} {c : Addr} (F : Fun K x qual st f fd) (hc : fd.code = .ref c) (S : FnScope N ps (defScope st)) (len : ∀ vs H Q E, sp vs H Q E → vs.length = ps.length)
    (hbody : ∀ (A : Around) (outer : List Env) (s : Shared) (H : Hp) (vs : List V) (Q : VK) (E : XK), Room k (A.deeper (envOfC qual (defScope st) s.heap.objs.size f (.ref c))) → sp vs H Q E →
      ∃ t, PSs (cxOf CX P w K mg base N qual (defScope st) f (.ref c) A outer s H E) (defBody st) t ∧ t { nx := fun _ H' => Q .non H', rt := Q } (start N vs) H) : FnOk P w K mg base CX (k + 1) f fd ps sp := by
  obtain ⟨oc, od, kV, doc, pm, an, cdv, ct, osl, rfl, lk, hcd⟩ := F.ex
  have e : cdv = .ref c := hc
  subst e
  exact fn_of lk hcd S len fun A outer s H vs Q E hr hsp => hbody A outer s H vs Q E hr hsp
theorem okC0 {N ps : List Str} {k : Nat} {sp : Sp} {c : Addr} (F : Fun K x qual st f fd) (hc : fd.code = .ref c) (S : FnScope N ps (defScope st)) (len : ∀ vs H Q E, sp vs H Q E → vs.length = ps.length)
    (hbody : ∀ (A : Around) (outer : List Env) (s : Shared) (H : Hp) (vs : List V) (Q : VK) (E : XK), Room k (A.deeper (envOfC qual (defScope st) s.heap.objs.size f (.ref c))) → sp vs H Q E →
      ∃ t, PSs (cxOf CX0 P w K mg base N qual (defScope st) f (.ref c) A outer s H E).nox (defBody st) t ∧ t { nx := fun _ H' => Q .non H', rt := Q } (start N vs) H) : FnOk P w K mg base CX0 (k + 1) f fd ps sp :=
  okC F hc S len fun A outer s H vs Q E hr hsp => let ⟨t, h, q⟩ := hbody A outer s H vs Q E hr hsp; ⟨t, h.nox, q⟩
end
end Kb
set_option Elab.async false
set_option linter.all false
set_option maxRecDepth 100000
set_option maxHeartbeats 4000000
/-! class X(..): def __init__(self, at): super().__init__(f'at {at}'); self.at = at -/
namespace KbAt
open PySem PySem.W PySem.Calls PyProof.Rows PySem.HandSPX
structure Ps where
  (p0 p1 p2 p3 p4 p5 p6 p7 p8 q1 q2 q3 q4 a1 a2 : Pos)
def prm (z : Ps) : Arguments := { posonlyargs := [], args := [⟨"self", none, z.a1⟩, ⟨"at", none, z.a2⟩], vararg := none, kwonlyargs := [], kw_defaults := [], kwarg := none, defaults := [] }
def s1 (z : Ps) : Stmt := .Expr (.Call (.Attribute (.Call (.Name "super" z.p0) [] [] z.p1) "__init__" z.p2) [.JoinedStr [.Constant (.str "at ") 0 z.p3, .FormattedValue (.Name "at" z.p4) (-1) none z.p5] z.p6] [] z.p7) z.p8
def s2 (z : Ps) : Stmt := .Assign [.Attribute (.Name "self" z.q1) "at" z.q2] (.Name "at" z.q3) z.q4
def sco : Scope := { kind := .function, names := [("self", .local), ("at", .local), ("__class__", .free), ("super", .globalImplicit)], isGenerator := false, isCoroutine := false, more := [] }
/-- what the written part says of such a class, at C, of its __init__, at f, of the cell of its name, at cc -/
structure Txt (P : Program) (K : Frag) (C f cc cda : Addr) (q : Str) (z : Ps) : Prop where
  cls : ∃ nm qn N bs bm sn sub ab col dd k0 k1 k2 k3 k5, K.lookup C = some (excClassObj nm qn C N bs bm true sn sub ab col dd k0 k1 k2 k3 k5 "ValueError.__new__") ∧ refsVE bm = true ∧ alongIn K "__init__" bm = some (some (.builtin "ValueError.__init__"))
  sa : findIn K (.ref C) "__setattr__" = some (some (.builtin "object.__setattr__"))
  noN : findIn K (.ref C) "at" = some none
  iC : findIn K (.ref C) "__init__" = some (some (.ref f))
  tf : typeIn K (.ref f) = some (.type "function")
  kC : keepIn K (.ref C) = true
  exC : subIn K (.ref C) (.type "BaseException") = some true
  veC : subIn K (.ref C) (.type "ValueError") = some true
  self : mroIn K C (.ref C) = some true
  tyC : typeIn K (.ref C) = some (.type "type")
  op : nsIn K cStatics "thirdparty.any" = some none
  fn : ∃ oc od kV doc pm an ct osl, K.lookup f = some ⟨oc, od, .func (ksFn "__init__" q (prm z) [s1 z, s2 z] sco .none kV doc pm an (.ref cda) ct cc), osl⟩
  co : codeIn K (.ref cda) q = true
  fl : ∃ ccl cdd vs ccs file tf, K.lookup cda = some ⟨ccl, cdd, .fields vs, ccs⟩ ∧ vs[2]? = some (.str file tf) ∧ (P.main.file == file) = true
  cell : ∃ cl cld csl, K.lookup cc = some ⟨cl, cld, .cell (some (.ref C)), csl⟩
  ln : (z.p2.endLine == z.p7.line) = true
  top : (P.main.scope.names.lookup ("super" : Str)).isSome = false
/-- what __init__ leaves of a fresh exception at x -/
structure Fin (h h' : Heap) (x C dx t1 : Addr) (v : Value) : Prop where
  keep : ∀ b o, b ≠ x → h.get? b = some o → h'.get? b = some o
  obj : h'.get? x = some { cls := .ref C, dict := some dx, data := .fields #[.ref t1, .none, .none, .none, .bool false, .none] }
  dbig : h.objs.size ≤ dx
  dne : dx ≠ x
  ns : h'.Ns1 dx (fun y => if y = "at" then some v else none)
theorem ldX {M : Model} {s : Shared} {q : Str} {L f cc : Addr} {cd : Value} {m : Str → Option Value} {x : Str} {pos : Pos} {v : Value} {Q : Value → Shared → Prop} {A : Around} {E : Value → Shared → Prop} (hn : s.heap.Ns L m) (hv : m x = some v) (h : Q v s)
    (hl : (ksEnv q sco L f cd cc).kindOf x = some .local := by rfl) (hd : (x == ("__debug__" : Str)) = false := by decide) :
    wpAny M A (eval (.Name x pos) (ksEnv q sco L f cd cc)) Q E s := wpAny_Name (wpAny_loadName_local rfl hl hn hv h) hd
/-- the bound __init__, called -/
theorem call_mw {prog : Program} {w : World} {A : Around} {E : Value → Shared → Prop} {h : Heap} {g : Array GenState} {d : Drawn} {t : Nat} {os : OsState} {nm q : Str} {C N : Addr} {bs bm : List Value} {hdct : Bool} {sn : List Str} {sub : List Value} {ab : Bool} {col : Option Bool} {dd : Option Addr} {k0 k1 k2 k3 k5 : Option Value}
    {u e t0 : Addr} {rest : List Value} {Q : Value → Shared → Prop}
    (hC : h.get? C = some (excClassObj nm q C N bs bm hdct sn sub ab col dd k0 k1 k2 k3 k5 "ValueError.__new__")) (he : h.get? e = some (HandSPX.excO C t0)) (hu : h.get? u = some (kxs_mw "ValueError.__init__" e)) (hrest : rest.length ≤ sizeLine)
    (hq : ∀ h' t1, (∀ b o, b ≠ e → h.get? b = some o → h'.get? b = some o) → h'.get? e = some (HandSPX.excO C t1) → Q .none ⟨h', g, d, t, os⟩) :
    wpAny (model prog w) A (call (.ref u) rest) Q E ⟨h, g, d, t, os⟩ := by
  refine wpAny_call (codeAny_of_tree ?_)
  show wpAny _ A.in1 (callAny (.ref u) ⟨rest, []⟩) _ _ _
  simp only [callAny]
  refine wpAny_bind (wpAny_load hu ?_)
  simp only [kxs_mw, show (Value.type "method-wrapper" == Value.type "method" || Value.type "method-wrapper" == Value.type "builtin_function_or_method" || Value.type "method-wrapper" == Value.type "method-wrapper") = true by decide, if_true]
  refine KFB.if_so (by decide) ?_
  refine wpAny_bind (check_bound_init F.excBase_ValueError.toExcCallFacts hC he rfl (wpAny_bind (wpAny_pure (wpAny_pure ⟨plainId_quiet F.excBase_ValueError.init.plain _, codeAny_builtin F.excBase_ValueError.initEntry ?_⟩))))
  exact exc_init_tree (cls := .ref C) (t0 := t0) (dv := none) (c2 := .none) (c3 := .none) (b4 := .bool false) he hrest fun h' k e' _ => hq h' _ k e'
section
variable {prog : Program} {w : World} {A : Around} {R : Result → Shared → Prop} {s : Shared} {K : Frag} {C f cc cda : Addr} {q : Str} {z : Ps} {mg mb : Str → Option Value}
theorem init (T : Txt prog K C f cc cda q z) {x t0 : Addr} {i : Int} {tk0 : Tok} (X : K.In s.heap) (hlim : s.heap.NoLimit) (hG : s.heap.Ns mainGlobals mg) (hB : s.heap.Ns builtinsNs mb) (hsu : mg "super" = none) (hbb : mb "super" = some (.type "super"))
    (hx : s.heap.get? x = some (excO C t0)) (hnx : K.lookup x = none) (hroom : A.depth < recursionLimit) (hi : i.natAbs.log2 < 1920) (hlen : (("at " : Str) ++ (toString i : Str)).length ≤ sizeLine)
    (hq : ∀ h' tk dx t1, Fin s.heap h' x C dx t1 (.int i tk0) → R (.ok (.ret .none)) { s with heap := h', toks := tk }) :
    codeAny (model prog w) A (.call (.ref f) ⟨[.ref x, .int i tk0], []⟩) R s := by
  obtain ⟨oc, od, kV, doc, pm, an, ct, osl, ho⟩ := T.fn
  obtain ⟨nm, qn, N, bs, bm, sn, sub, ab, col, dd, k0, k1, k2, k3, k5, hC, hbm, hal⟩ := T.cls
  obtain ⟨ccl, cdd, vs, ccs, file, tf, hcode, hvs, hfile⟩ := T.fl
  obtain ⟨cl, cld, csl, hcell⟩ := T.cell
  have hcl : clsIn K C = some { name := nm, bases := bs, mro := .ref C :: bm, ns := N, qualname := qn, hasDict := true, slotNames := sn, subclasses := sub, abstract := ab, collection := col, hasDel := false } := by unfold clsIn; rw [hC] <;> rfl
  refine ks_codeAny_call_defAt (fd := ksFn "__init__" q (prm z) [s1 z, s2 z] sco .none kV doc pm an (.ref cda) ct cc) (body := [s1 z, s2 z]) (binds := [("self", .ref x), ("at", .int i tk0)]) hroom (X _ _ ho) rfl hlim (codeRec_of X T.co) rfl
    (BindsTo.of_eq (by first | rfl | with_unfolding_all rfl)) (show ∀ y ∈ sco.names, y.2 ≠ .cell by decide) (fun y hy => ?_) (fun h₁ hns k => ?_) rfl rfl rfl
  · rcases List.mem_cons.mp hy with e | e
    · rw [e] <;> rfl
    · rw [List.mem_singleton.mp e] <;> rfl
  have X₁ : K.In h₁ := X.keeps k
  have hx₁ := k _ _ hx
  have hL : s.heap.objs.size ≠ x := Nat.ne_of_gt (Heap.lt_size hx)
  show _root_.PySem.wpAt _ _ _ (execs [s1 z, s2 z] (ksEnv q sco s.heap.objs.size f (.ref cda) cc)) _ _ _
  have hpos : methodCallPos true (.Call (.Name "super" z.p0) [] [] z.p1) (ksEnv q sco s.heap.objs.size f (.ref cda) cc) z.p2 z.p7 = pure z.p7 := by
    unfold methodCallPos
    simp [T.ln]
  obtain ⟨PL, hcall⟩ : ∃ PL, eval (.Call (.Attribute (.Call (.Name "super" z.p0) [] [] z.p1) "__init__" z.p2) [.JoinedStr [.Constant (.str "at ") 0 z.p3, .FormattedValue (.Name "at" z.p4) (-1) none z.p5] z.p6] [] z.p7) (ksEnv q sco s.heap.objs.size f (.ref cda) cc) = (do
      let ov ← attributeBase (.Call (.Name "super" z.p0) [] [] z.p1) "__init__" (ksEnv q sco s.heap.objs.size f (.ref cda) cc) (eval (.Call (.Name "super" z.p0) [] [] z.p1) (ksEnv q sco s.heap.objs.size f (.ref cda) cc))
      standAt z.p2.atName
      let (fx, first) ← holding [ov] (getMethod ov "__init__" PL)
      callWith z.p7 fx first (backTo z.p7 (starEach [.JoinedStr [.Constant (.str "at ") 0 z.p3, .FormattedValue (.Name "at" z.p4) (-1) none z.p5] z.p6] (ksEnv q sco s.heap.objs.size f (.ref cda) cc))) []) := by
    refine ⟨(do return (← importBound (.Call (.Name "super" z.p0) [] [] z.p1) (ksEnv q sco s.heap.objs.size f (.ref cda) cc)).getD true), ?_⟩
    rw [arm_eval_Call]
    unfold methodCall calleeOf
    have hform : methodCallForm (([.JoinedStr [.Constant (.str "at ") 0 z.p3, .FormattedValue (.Name "at" z.p4) (-1) none z.p5] z.p6] : List Expr).length + ([] : List Keyword).length) (backTo z.p7 (starEach [.JoinedStr [.Constant (.str "at ") 0 z.p3, .FormattedValue (.Name "at" z.p4) (-1) none z.p5] z.p6] (ksEnv q sco s.heap.objs.size f (.ref cda) cc))) (backToKw z.p7 (keywordEach [] (ksEnv q sco s.heap.objs.size f (.ref cda) cc))) = true := rfl
    rw [hform, hpos]
    rfl
  refine ks_wpAt_execs_cons (ks_wpAt_Expr_any (ks_wpAt_MethodCall (pl := PL) ?_ hcall))
  -- super()
  refine ks_wpAt_super_base (env := ksEnv q sco s.heap.objs.size f (.ref cda) cc) rfl rfl (by decide) rfl (X₁ _ _ ho) rfl rfl rfl (X₁ _ _ hcode) rfl hvs hfile T.top ?_
  refine ks_loadName_global rfl rfl (loadGlobal_builtin (env := ksEnv q sco s.heap.objs.size f (.ref cda) cc) (hG.keeps k) hsu (hB.keeps k) hbb ⟨rfl, ?_⟩)
  refine wpAny_loadName_free rfl rfl rfl ⟨_, X₁ _ _ hcell, rfl⟩ ?_
  refine wpAny_loadName_local (name := "self") (m := fun y => ([("self", Value.ref x), ("at", .int i tk0)] : List (Str × Value)).reverse.lookup y) rfl rfl hns rfl ?_
  refine ks_wpAny_isType_cls (X₁ _ _ hC) rfl ⟨rfl, ?_⟩
  refine ks_wpAny_call_super (C := C) (X₁ _ _ hC) rfl hx₁ rfl (fun c e => by cases e) (looks_mroIn X₁ T.self) (fun h₂ hso k₂ => ?_)
  have X₂ : K.In h₂ := X₁.keeps k₂
  have hx₂ := k₂ _ _ hx₁
  -- .__init__
  have hxC : x ≠ C := fun e => by
    rw [e] at hnx
    rw [hnx] at hC
    cases hC
  refine kxs_getMethod (K := K) (D := C) (x := x) (C := C) kxs_ValueError hso (looks_opaque X₂ T.op) (l₀ := .ref C :: bm) (l := bm) (fun A Q E s k q => wpAny_bind ((looks_clsIn X₂ hcl) A _ E s k (wpAny_pure q))) ?_ X₂ hal ?_ hxC (by decide) ?_
  · rw [List.dropWhile_cons]
    simp
  · have J : InstAt h₂ x (excO C t0) C none := ⟨hx₂, rfl, rfl, trivial⟩
    exact J.type.andThen (looks_subIn X₂ T.veC)
  have hmw : (h₂.push (kxs_mw "ValueError.__init__" x)).get? h₂.objs.size = some (kxs_mw "ValueError.__init__" x) := Heap.get?_push_at rfl rfl
  have up3 : ∀ b o, h₂.get? b = some o → (h₂.push (kxs_mw "ValueError.__init__" x)).get? b = some o := fun b o e => Heap.get?_push_of_some _ e
  show wpAny _ _ (callWith _ (.ref h₂.objs.size) [] _ []) _ _ _
  refine kxs_callWith (i := "ValueError.__init__") (x := x) rfl (evalArgs_plain ?_)
  -- f'at {at}'
  refine spliced_cons (wpAny_JoinedStr (pos := z.p6) ?_)
  have keep₂ : ∀ b o, s.heap.get? b = some o → h₂.get? b = some o := fun b o e => k₂ b o (k b o e)
  have hns₃ : (h₂.push (kxs_mw "ValueError.__init__" x)).Ns s.heap.objs.size (fun y => ([("self", Value.ref x), ("at", .int i tk0)] : List (Str × Value)).reverse.lookup y) := (hns.keeps k₂).keeps up3
  show wpAny _ _ (eval (.Constant (.str "at ") 0 z.p3) _) _ _ _
  refine Constant_str ⟨"at ", _, rfl, ?_, ?_⟩
  · show (3 : Nat) ≤ sizeLine
    rw [sizeLine_eq]
    decide
  show wpAny _ _ (eval (.FormattedValue (.Name "at" z.p4) (-1) none z.p5) _) _ _ _
  refine wpAny_FormattedValue_plain (ldX (v := .int i tk0) hns₃ rfl (wpAny_formatField_int hi ⟨toString i, _, rfl, hlen, ?_⟩))
  refine ⟨hlen, spliced_nil ⟨hmw, ?_⟩⟩
  refine call_mw (up3 _ _ (X₂ _ _ hC)) (up3 _ _ hx₂) hmw (by show 1 ≤ sizeLine; rw [sizeLine_eq]; decide) fun h₄ t1 k₄ hx₄ => ?_
  -- self.at = at
  have k₀₄ : ∀ b o, b ≠ x → s.heap.get? b = some o → h₄.get? b = some o := fun b o hb e => k₄ b o hb (up3 _ _ (keep₂ _ _ e))
  have X₄ : K.In h₄ := fun b o e => k₄ b o (fun ez => by rw [ez, hnx] at e; cases e) (up3 _ _ (X₂ _ _ e))
  have hns₄ : h₄.Ns s.heap.objs.size (fun y => ([("self", Value.ref x), ("at", .int i tk0)] : List (Str × Value)).reverse.lookup y) := by
    obtain ⟨o, es, ep, e1, e2⟩ := hns₃
    exact ⟨o, es, ep, k₄ _ _ hL e1, e2⟩
  refine wpAt_of_wpAny (wpAny_execs_cons (plainObj_wpAny_Assign_Attribute ?_))
  refine ldX (v := .int i tk0) hns₄ rfl (ldX (v := .ref x) hns₄ rfl ?_)
  refine set_plain X₄ (ox := excO C t1) (od := none) ⟨hx₄, rfl, rfl, trivial⟩ T.sa ?_
  refine exc_osa X₄ hx₄ hcl (show refsVE (.ref C :: bm) = true from hbm) rfl T.noN (fun h₅ tk₅ dx k₅ dn dne hx₅ hn₅ => ?_)
  refine wpAny_execs_nil (hq h₅ tk₅ dx t1 ⟨fun b o hb e => k₅ b o hb (k₀₄ b o hb e), hx₅, ?_, dne, hn₅⟩)
  refine Nat.le_trans ?_ dn
  exact Nat.le_of_lt hns₄.lt
/-- a made one -/
structure Made (h h' : Heap) (e C d : Addr) (v : Value) : Prop where
  keep : ∀ b o, h.get? b = some o → h'.get? b = some o
  new : h.objs.size ≤ e
  obj : ∃ oe vs, h'.get? e = some oe ∧ oe.cls = .ref C ∧ oe.dict = some d ∧ oe.data = .fields vs ∧ vs[1]? = some .none
  dbig : h.objs.size ≤ d
  dne : d ≠ e
  ns : h'.Ns1 d (fun y => if y = "at" then some v else none)
theorem made (T : Txt prog K C f cc cda q z) {i : Int} {tk0 : Tok} (X : K.In s.heap) (hlim : s.heap.NoLimit) (hG : s.heap.Ns mainGlobals mg) (hB : s.heap.Ns builtinsNs mb) (hsu : mg "super" = none) (hbb : mb "super" = some (.type "super"))
    (hroom : A.depth + 1 < recursionLimit) (hi : i.natAbs.log2 < 1920) (hlen : (("at " : Str) ++ (toString i : Str)).length ≤ sizeLine)
    (hq : ∀ h' tk e d, Made s.heap h' e C d (.int i tk0) → R (.ok (.ret (.ref e))) { s with heap := h', toks := tk }) :
    codeAny (model prog w) A (.call (.ref C) ⟨[.int i tk0], []⟩) R s := by
  obtain ⟨nm, qn, N, bs, bm, sn, sub, ab, col, dd, k0, k1, k2, k3, k5, hC, hbm, _⟩ := T.cls
  obtain ⟨hp, g, dr, tk, os⟩ := s
  have k : ∀ b o, hp.get? b = some o → ((hp.push (kdv_tup [.int i tk0])).push (excO C hp.objs.size)).get? b = some o := fun b o e => Heap.get?_push_of_some _ (Heap.get?_push_of_some _ e)
  have hget : ((hp.push (kdv_tup [.int i tk0])).push (excO C hp.objs.size)).get? (hp.objs.size + 1) = some (excO C hp.objs.size) := by heap_get
  have hnx : K.lookup (hp.objs.size + 1) = none := by
    cases e : K.lookup (hp.objs.size + 1) with
    | none => rfl
    | some o =>
      have y : hp.get? (hp.objs.size + 1) = some o := X _ _ e
      exact absurd (Nat.lt_of_succ_lt (Heap.lt_size y)) (Nat.lt_irrefl _)
  refine call_own F.excBase_ValueError (fun Y => refsVE_contains Y bm hbm) (X _ _ hC) (looks_findIn X T.iC) (fun self => bind_fn X self T.tf) (by show 1 ≤ sizeLine; rw [sizeLine_eq]; decide) ?_
  refine init (s := ⟨(hp.push (kdv_tup [.int i tk0])).push (excO C hp.objs.size), g, dr, tk, os⟩) T (X.keeps k) (hlim.keeps k) (hG.keeps k) (hB.keeps k) hsu hbb hget hnx hroom hi hlen fun h' tk' dx t1 Y => ?_
  have old : ∀ b o, hp.get? b = some o → h'.get? b = some o := fun b o e => Y.keep b o (Nat.ne_of_lt (Nat.lt_succ_of_lt (Heap.lt_size e))) (k b o e)
  have big : hp.objs.size + 1 + 1 ≤ dx := by
    first
      | (simpa only [Heap.size_push] using Y.dbig)
      | exact Y.dbig
  exact ⟨rfl, hq h' tk' (hp.objs.size + 1) dx ⟨old, Nat.le_succ _, ⟨_, _, Y.obj, rfl, rfl, rfl, rfl⟩, Nat.le_trans (Nat.le_trans (Nat.le_succ _) (Nat.le_succ _)) big, Y.dne, Y.ns⟩⟩
end
end KbAt
set_option Elab.async false
set_option linter.all false
set_option maxRecDepth 100000
set_option maxHeartbeats 4000000
namespace KbAt
open PySem PySem.Spec PyProof.Rows L2 Kb
theorem relO_at {v : V} {u : Value} (r : RelV v u) (y : Str) : RelO (List.lookup y [(("at" : Str), v)]) (if y = "at" then some u else none) := by
  by_cases hw : y = "at"
  · rw [hw, if_pos rfl]
    have e : List.lookup ("at" : Str) [(("at" : Str), v)] = some v := by simp [List.lookup]
    rw [e]
    exact r
  · rw [if_neg hw]
    have e : (y == ("at" : Str)) = false := by simpa using hw
    have e2 : List.lookup y [(("at" : Str), v)] = none := by simp [List.lookup, e]
    rw [e2]
    trivial
/-- a number whose text fits -/
def Fits (i : Int) : Prop := i.natAbs.log2 < 1920 ∧ (("at " : Str) ++ (toString i : Str)).length ≤ sizeLine
theorem fits_of {i : Int} (h : i.natAbs.log2 < 1001) : Fits i := by
  have h1 := h
  refine ⟨Nat.lt_trans h1 (by decide), ?_⟩
  have e := int_text_length_le (k := 1001) (by decide) h1
  have e2 : (("at " : Str) ++ (toString i : Str)).length = 3 + (Str.ofString (toString i)).length := by
    show (("at " : Str) ++ (Str.ofString (toString i))).length = _
    rw [Str.length_append]
    rfl
  rw [e2, PySem.ofString_length, sizeLine_eq]
  omega
section
variable {X : Cx} {C f cc cda : Addr} {q nm : Str} {z : Ps}
/-- X(e) -/
def tMk (C : Addr) (ta : TA) : L2.St → Hp → XK → Prop := fun σ H Q => ta σ H fun vs H1 => ∃ i, vs = [.int i] ∧ Fits i ∧ ∀ d, H1 d = none → Q (.ref C) (some d) (upd H1 d (.xd [("at", .int i)]))
theorem pmk {a : Expr} {ta : TA} {p pos : Pos} {k : Nat} (T : Txt X.prog X.K C f cc cda q z) (hm : X.mg nm = some (.ref C)) (hs : X.mg "super" = none) (hr : Room (k + 1) X.A) (ha : PA X [a] ta) (hg : Gl X nm) (hdb : (nm == ("__debug__" : Str)) = false := by decide)
    (he : starEach (a :: []) X.env = (false, eval a X.env) :: starEach [] X.env := by rfl) (hpl : (backTo pos (starEach [] X.env)).any (·.1) = false := by rfl) :
    PMk X (.Call (.Name nm p) [a] [] pos) (tMk C ta) := by
  intro pins s σ H Q I h
  refine wpAny_Call_Name_kw (ld_glob I hg hm ?_ hdb)
  refine PySem.W.callWith_K (h₀ := X.base) I.ok.mod.kin T.kC (thn (ha.run pos pins s σ H _ I h) fun us s1 ⟨vs, H1, I1, r1, i, ev, hf, q1⟩ => ?_) he hpl
  subst ev
  refine ⟨I1.kIn, ?_⟩
  cases r1 with
  | @cons _ v' _ us' rv rn =>
    cases rn
    obtain ⟨tk0, ev⟩ : ∃ t : Tok, v' = Value.int i t := rv
    subst ev
    have rv : RelV (.int i) (Value.int i tk0) := ⟨tk0, rfl⟩
    have hlim := I1.nolimit
    obtain ⟨mb, hb1, hb2⟩ := I1.mod.blt
    have hG := I1.mod.glob.keeps I1.bk
    have hB := hb1.keeps I1.bk
    have hkin := I1.kIn
    obtain ⟨hp, g, dr, tk, os⟩ := s1
    refine wpAny_call (made T hkin hlim hG hB hs ((hb2 _ (by decide)).trans (by first | rfl | decide +kernel | kernel_rfl)) (by have := hr.dp; omega) hf.1 hf.2 fun h' tk' e d M => ?_)
    show MkP X pins σ Q (.ref e) ⟨h', g, dr, tk', os⟩
    obtain ⟨oe, fv, hoe, hc, hd, hdat, h1⟩ := M.obj
    have hns := M.ns
    obtain ⟨G', g1, g2⟩ := restrict h' fun b => decide (b ≠ e)
    have gk : ∀ b, b ≠ e → G'.get? b = h'.get? b := fun b hb => g1 b (decide_eq_true hb)
    have ge : G'.get? e = none := g2 e (by simp)
    have old : ∀ b o, hp.get? b = some o → G'.get? b = some o := fun b o y => (gk b (Nat.ne_of_lt (Nat.lt_of_lt_of_le (Heap.lt_size y) M.new))).trans (M.keep b o y)
    have ob : ObjOk X.prog X.w (upd H1 d (.xd [(("at" : Str), .int i)])) G' d (.xd [(("at" : Str), .int i)]) :=
      ⟨_, hns.at (fun o y => (gk d M.dne).trans y), fun y => relO_at rv y⟩
    have J : Inv X pins σ (upd H1 d (.xd [(("at" : Str), .int i)])) ⟨G', g, dr, tk', os⟩ := I1.laid (t' := tk') old M.dbig ob
    refine ⟨e, oe, fv, ⟨G', g, dr, tk', os⟩, _, .ref C, some d, rfl, J, fun b o y => ?_, ge, hoe, ⟨hc, hd⟩, hdat, h1, ?_, rfl, I1.bare, raises_own T.exC T.tyC, q1 d (I1.hok.fresh M.dbig)⟩
    · by_cases hb : b = e
      · have y' : G'.get? b = some o := y
        rw [hb, ge] at y'
        cases y'
      · exact (gk b hb).symm.trans y
    · rw [upd_ne (Ne.symm M.dne)]
      exact I1.hok.fresh M.new
/-- told.at, told an exception of the class C that was caught, held as a value; its dict at d -/
def tAt (K : PySem.W.Frag) (te : TE) : TE := fun σ H Q => te σ H fun x H1 => ∃ (a C d : Addr) (v : V), x = .ref a ∧ H1 a = some (ExV (.ref C) (some d) a) ∧ H1 d = some (.xd [("at", v)]) ∧ PySem.W.findIn K (.ref C) "__getattribute__" = some (some (.builtin "BaseException.__getattribute__")) ∧
  PySem.W.findIn K (.ref C) "__getattr__" = some none ∧ PySem.W.findIn K (.ref C) "at" = some none ∧ PySem.W.hasDictIn K C = true ∧ PySem.W.subIn K (.ref C) (.type "BaseException") = some true ∧ Q v H1
theorem pe_at {e : Expr} {te : TE} {pos : Pos} (he : PE X e te) (hb : attributeBase e "at" X.env (eval e X.env) = eval e X.env := by rfl) : PE X (.Attribute e "at" pos) (tAt X.K te) := by
  refine ⟨fun pins s σ H Q I h => ?_⟩
  refine attr_of hb (thn (he.run pins s σ H _ I h) fun u s1 ⟨x, H1, I1, rx, a, C, d, v, ex, ha, ed, ga, gg, gn, hdC, exC, q⟩ => ?_)
  subst ex
  obtain rfl : u = Value.ref a := rx
  obtain ⟨⟨oe, vs, hget, hz, hd⟩, _, _⟩ := I1.hok a _ ha
  have hx : ObjOk X.prog X.w H1 s1.heap d (.xd [(("at" : Str), v)]) := I1.hok d _ ed
  obtain ⟨mA, hns, hr⟩ := hx
  obtain ⟨od, ho, hl⟩ := lookIn_ns hns
  have l : List.lookup ("at" : Str) [(("at" : Str), v)] = some v := by simp [List.lookup]
  obtain ⟨u, hu, ru⟩ := RelO.some_of (v := v) (o := mA "at") (by rw [← l]; exact hr "at")
  have J : PySem.W.InstAt s1.heap a oe C (some od) := ⟨hget, hz.1, by unfold PySem.W.notCls; rw [hd] <;> rfl, by rw [hz.2]; exact ho⟩
  exact HandSPX.exc_get I1.kIn J ga gg exC (PySem.W.findObj_own hdC gn rfl (by rw [hl, hu])) (handed_of ru) ⟨v, H1, I1.tok _, ru, q⟩
/-- isinstance(e, c), e an exception with a dict of its own, held as a value -/
def rIsD (K : PySem.W.Frag) : List V → Hp → VK → Prop := fun xs H Q => ∃ (a D d : Addr) (fs : List (Str × V)) (c : V) (cv : Value) (b : Bool), xs = [.ref a, c] ∧ H a = some (ExV (.ref D) (some d) a) ∧ H d = some (.xd fs) ∧ ExcC K D ∧ (∀ u, RelV c u → u = cv) ∧ PySem.W.kitOne K (.ref D) cv = some b ∧ Q (.bl b) H
theorem call_isD : CallR X (.builtin "isinstance") (rIsD X.K) := by
  intro pins s σ H xs us Q I r h
  obtain ⟨a, D, d, fs, c, cv, b, rfl, ha, hd, C, hcv, e, q⟩ := h
  cases r with
  | cons rx rr =>
    cases rr with
    | cons rt rr =>
      cases rr
      cases rx
      have ec := hcv _ rt
      subst ec
      obtain ⟨⟨oe, vs, hget, hz, hv⟩, _, _⟩ := I.hok a _ ha
      have hx : ObjOk X.prog X.w H s.heap d (.xd fs) := I.hok d _ hd
      obtain ⟨mA, hns, hr⟩ := hx
      obtain ⟨od, ho, _⟩ := lookIn_ns hns
      have J : PySem.W.InstAt s.heap a oe D (some od) := ⟨hget, hz.1, by unfold PySem.W.notCls; rw [hv] <;> rfl, by rw [hz.2]; exact ho⟩
      have hcl : (PySem.W.clsIn X.K D).isSome = true := by
        obtain ⟨cd, hc, _⟩ := PySem.W.any_some C.hd
        rw [hc]
        rfl
      exact PySem.W.kia_one (PySem.W.kitx_exc hcl C.hg C.hk C.hs C.ha C.hn C.ht C.hm) I.kIn J e (fun z => nomatch z) fun tk => ⟨.bl b, H, I.kept (t' := tk) fun _ _ z => z, rfl, q⟩
end
end KbAt
set_option Elab.async false
set_option linter.all false
set_option maxRecDepth 100000
set_option maxHeartbeats 4000000
/-! the head's facts with defs that close over their class -/
namespace KbHk
open PySem PySem.W PySem.Calls PyProof.Rows L2 Kb
abbrev FnC : Type := Option (Str × Str × Arguments × FuncBody × Scope × Addr × Addr)
/-- a def but for what it closes over -/
def fnC (K : Frag) (p : Str × Option Str) : FnC := match K.lookup (He.fAd K p) with
  | some ⟨_, _, .func fd, _⟩ => some (fd.name, fd.qualname, fd.params, fd.body, fd.scope, fd.globals, fd.builtins)
  | _ => none
/-- what is reached, the statics too -/
def asS (g : Addr → Option Obj) (n : Nat) : List Addr := cStatics :: He.asD g n
def obsS (n : Nat) (fa : List He.Fa) (fn : List He.DefD) (ts : List He.Tab) (tf : List He.Defn) (ex : Frag → Bool) (g : Addr → Option Obj) : He.AlX := (He.obsT fa fn ts (He.frT g (asS g n)), ex (He.frT g (asS g n)) && He.tabsB g tf (He.frT g (asS g n)))
theorem says_of {n : Nat} {fa : List He.Fa} {fn : List He.DefD} {ts : List He.Tab} {tf : List He.Defn} {ex : Frag → Bool} {w : World} {h : Heap} (e : obsS n fa fn ts tf ex h.get? = He.valX fn ts w) : He.SaysX fa fn ts tf ex w h (He.frT h.get? (asS h.get? n)) := by
  have e1 : He.obsT fa fn ts (He.frT h.get? (asS h.get? n)) = He.valT fn ts w := congrArg Prod.fst e
  have e2 : (ex (He.frT h.get? (asS h.get? n)) && He.tabsB h.get? tf (He.frT h.get? (asS h.get? n))) = true := congrArg Prod.snd e
  obtain ⟨h1, h2⟩ := Bool.and_eq_true_iff.mp e2
  have key : ∀ p ∈ tf, codeHdIn (He.frT h.get? (asS h.get? n)) (He.cT (He.frT h.get? (asS h.get? n)) p).1 (He.cT (He.frT h.get? (asS h.get? n)) p).2 = true ∧ ∃ o, h.get? (He.cT (He.frT h.get? (asS h.get? n)) p).2 = some o ∧ He.emptyTab o = true := fun p hp => by
    obtain ⟨h3, h4⟩ := Bool.and_eq_true_iff.mp (List.all_eq_true.mp h2 p hp)
    cases q : h.get? (He.cT (He.frT h.get? (asS h.get? n)) p).2 with
    | none =>
      rw [q] at h4
      cases h4
    | some o =>
      rw [q] at h4
      exact ⟨h3, o, rfl, h4⟩
  refine ⟨e1, h1, fun p hp => (key p hp).1, fun p hp => ?_, fun p hp => ?_⟩
  · obtain ⟨_, o, q, y⟩ := key p hp
    exact He.frT_none q y
  · obtain ⟨_, o, q, y⟩ := key p hp
    rw [q, He.emptyTab_eq y]
def hookM (n : Nat) (fa : List He.Fa) (fn : List He.DefD) (ts : List He.Tab) (tf : List He.Defn) (ex : Frag → Bool) (ms : List (Str × Option Str)) (mv : List FnC) : Hook where
  α := He.AlX × List FnC
  obs := fun s => (obsS n fa fn ts tf ex s.heap.get?, ms.map fun p => fnC (He.frT s.heap.get? (asS s.heap.get? n)) p)
  val := fun w => (He.valX fn ts w, mv)
  says := fun w h => ∃ K : Frag, K.In h ∧ He.SaysX fa fn ts tf ex w h K ∧ ms.map (fnC K) = mv
  of := fun _ _ e => ⟨_, He.frT_in, says_of (congrArg Prod.fst e), congrArg Prod.snd e⟩
  keeps := fun _ _ _ ⟨K, hK, c, e⟩ k => ⟨K, Frag.In.keeps hK k, ⟨c.t, c.more, c.hd, c.out, fun p hp => k _ _ (c.empty p hp)⟩, e⟩
/-! ### an error class with at -/
def clsB (K : Frag) (C : Addr) : Bool := match K.lookup C with
  | some ⟨.type t, _, .cls cd, sl⟩ => decide (t = "type") && (match cd.mro, sl.toList with
    | .ref C' :: bm, [_, _, _, _, some (.builtin n), _] => decide (C' = C) && (decide (n = "ValueError.__new__") && (cd.hasDict && (!cd.hasDel && (HandSPX.refsVE bm && He.eqO (alongIn K "__init__" bm) (some (some (.builtin "ValueError.__init__")))))))
    | _, _ => false)
  | _ => false
def noneB : Value → Bool
  | .none => true
  | _ => false
def fileB (K : Frag) (file : Str) (a : Addr) : Bool := match K.lookup a with
  | some ⟨_, _, .fields vs, _⟩ => (match vs.toList with
    | _ :: _ :: .str fl _ :: _ => file == fl
    | _ => false)
  | _ => false
def cellB (K : Frag) (cc C : Addr) : Bool := match K.lookup cc with
  | some ⟨_, _, .cell (some (.ref D)), _⟩ => decide (D = C)
  | _ => false
def cloB (K : Frag) (file q : Str) (C f : Addr) : Bool := match K.lookup f with
  | some ⟨_, _, .func fd, _⟩ => (match fd.closure, fd.code with
    | [(x, cc)], .ref cda => decide (x = "__class__") && (noneB fd.defaults && (codeIn K (.ref cda) q && (fileB K file cda && cellB K cc C)))
    | _, _ => false)
  | _ => false
def atB (K : Frag) (file q : Str) (C f : Addr) : Bool := clsB K C && (cloB K file q C f && (He.eqO (findIn K (.ref C) "__setattr__") (some (some (.builtin "object.__setattr__"))) && (He.eqO (findIn K (.ref C) "at") (some none) && (He.eqO (findIn K (.ref C) "__init__") (some (some (.ref f))) &&
  (decide (typeIn K (.ref f) = some (.type "function")) && (keepIn K (.ref C) && (decide (subIn K (.ref C) (.type "BaseException") = some true) && (decide (subIn K (.ref C) (.type "ValueError") = some true) && (decide (mroIn K C (.ref C) = some true) && (decide (typeIn K (.ref C) = some (.type "type")) && He.eqO (nsIn K cStatics "thirdparty.any") (some none)))))))))))
theorem cls_ok {K : Frag} {C : Addr} (h : clsB K C = true) : ∃ nm qn N bs bm sn sub ab col dd k0 k1 k2 k3 k5, K.lookup C = some (excClassObj nm qn C N bs bm true sn sub ab col dd k0 k1 k2 k3 k5 "ValueError.__new__") ∧ HandSPX.refsVE bm = true ∧ alongIn K "__init__" bm = some (some (.builtin "ValueError.__init__")) := by
  unfold clsB at h
  split at h
  · rename_i t dd cd sl hl
    obtain ⟨h1, h2⟩ := Bool.and_eq_true_iff.mp h
    have h1 := of_decide_eq_true h1
    subst h1
    split at h2
    · rename_i C' bm k0 k1 k2 k3 n k5 hm hs
      obtain ⟨h3, h2⟩ := Bool.and_eq_true_iff.mp h2
      obtain ⟨h4, h2⟩ := Bool.and_eq_true_iff.mp h2
      obtain ⟨h5, h2⟩ := Bool.and_eq_true_iff.mp h2
      obtain ⟨h6, h2⟩ := Bool.and_eq_true_iff.mp h2
      obtain ⟨h7, h8⟩ := Bool.and_eq_true_iff.mp h2
      have h3 := of_decide_eq_true h3
      have h4 := of_decide_eq_true h4
      subst h3 h4
      have hsl : sl = #[k0, k1, k2, k3, some (.builtin "ValueError.__new__"), k5] := by
        rw [← Array.toArray_toList (xs := sl), hs]
      obtain ⟨nm, bs, mro, N, qn, hd, sn, sub, ab, col, del⟩ := cd
      dsimp only at hm h5 h6
      subst hm h5
      have h6 : del = false := by simpa using h6
      subst h6 hsl
      exact ⟨nm, qn, N, bs, bm, sn, sub, ab, col, dd, k0, k1, k2, k3, k5, hl, h7, He.eqO_ok h8⟩
    · cases h2
  · cases h
theorem file_ok {K : Frag} {file : Str} {a : Addr} (h : fileB K file a = true) : ∃ c d vs sl fl t, K.lookup a = some ⟨c, d, .fields vs, sl⟩ ∧ vs[2]? = some (.str fl t) ∧ (file == fl) = true := by
  unfold fileB at h
  split at h
  · rename_i c d vs sl hl
    split at h
    · rename_i a0 a1 fl t r he
      refine ⟨c, d, vs, sl, fl, t, hl, ?_, h⟩
      rw [← Array.getElem?_toList, he]
      rfl
    · cases h
  · cases h
theorem cell_ok {K : Frag} {cc C : Addr} (h : cellB K cc C = true) : ∃ c d sl, K.lookup cc = some ⟨c, d, .cell (some (.ref C)), sl⟩ := by
  unfold cellB at h
  split at h
  · rename_i c d D sl hl
    have := of_decide_eq_true h
    subst this
    exact ⟨c, d, sl, hl⟩
  · cases h
theorem none_ok {v : Value} (h : noneB v = true) : v = .none := by
  cases v <;> first | rfl | cases h
theorem txt_of {P : Program} {K : Frag} {p : Str × Option Str} {C : Addr} {q : Str} {z : KbAt.Ps} (h : atB K P.main.file q C (He.fAd K p) = true) (e : fnC K p = (some (("__init__" : Str), q, KbAt.prm z, FuncBody.stmts [KbAt.s1 z, KbAt.s2 z], KbAt.sco, mainGlobals, builtinsNs) : FnC)) (hl : (z.p2.endLine == z.p7.line) = true) (ht : (P.main.scope.names.lookup ("super" : Str)).isSome = false) :
    ∃ cc cda, KbAt.Txt P K C (He.fAd K p) cc cda q z := by
  obtain ⟨h1, h⟩ := Bool.and_eq_true_iff.mp h
  obtain ⟨h2, h⟩ := Bool.and_eq_true_iff.mp h
  obtain ⟨h3, h⟩ := Bool.and_eq_true_iff.mp h
  obtain ⟨h4, h⟩ := Bool.and_eq_true_iff.mp h
  obtain ⟨h5, h⟩ := Bool.and_eq_true_iff.mp h
  obtain ⟨h6, h⟩ := Bool.and_eq_true_iff.mp h
  obtain ⟨h7, h⟩ := Bool.and_eq_true_iff.mp h
  obtain ⟨h8, h⟩ := Bool.and_eq_true_iff.mp h
  obtain ⟨h9, h⟩ := Bool.and_eq_true_iff.mp h
  obtain ⟨h10, h⟩ := Bool.and_eq_true_iff.mp h
  obtain ⟨h11, h12⟩ := Bool.and_eq_true_iff.mp h
  unfold cloB at h2
  unfold fnC at e
  split at h2
  · rename_i oc od fd osl hf
    rw [hf] at e
    split at h2
    · rename_i x cc cda hcl hco
      obtain ⟨g1, h2⟩ := Bool.and_eq_true_iff.mp h2
      obtain ⟨g2, h2⟩ := Bool.and_eq_true_iff.mp h2
      obtain ⟨g3, h2⟩ := Bool.and_eq_true_iff.mp h2
      obtain ⟨g4, g5⟩ := Bool.and_eq_true_iff.mp h2
      have gn1 := of_decide_eq_true g1
      have gn2 := none_ok g2
      clear g1 g2
      obtain ⟨c1, c2, c3, c4, c5, c6, k1, k2, k3⟩ := file_ok g4
      refine ⟨cc, cda, cls_ok h1, He.eqO_ok h3, He.eqO_ok h4, He.eqO_ok h5, of_decide_eq_true h6, h7, of_decide_eq_true h8, of_decide_eq_true h9, of_decide_eq_true h10, of_decide_eq_true h11, He.eqO_ok h12, ?_, g3, ⟨c1, c2, c3, c4, c5, c6, k1, k2, k3⟩, cell_ok g5, hl, ht⟩
      obtain ⟨nm, qn, prm, bd, sc, gl, cl, df, kd, dc, pm, an, cdv, ct, bn⟩ := fd
      dsimp only at hcl hco gn1 gn2 e
      simp only [Option.some.injEq, Prod.mk.injEq] at e
      obtain ⟨e1, e2, e3, e4, e5, e6, e7⟩ := e
      subst hcl hco gn1 gn2 e1 e2 e3 e4 e5 e6 e7
      exact ⟨oc, od, kd, dc, pm, an, ct, osl, hf⟩
    · cases h2
  · cases h2
end KbHk
set_option Elab.async false
set_option linter.all false
set_option maxRecDepth 100000
set_option maxHeartbeats 4000000
namespace K16
open PySem PySem.Spec PyProof.Rows L2 Kb
/-! ### the text -/
def topS (i : Nat) : Stmt := PySem.Challenge.pw_onebase_k16_whole_cells_parted_one_way.main.body.getD i (.Pass ⟨0, 0, 0, 0⟩)
abbrev s_is_number : Stmt := topS 5
theorem sc_is_number : FnScope ["thing"] ["thing"] (defScope s_is_number) := ⟨rfl, rfl, rfl, by decide +kernel, rfl, by decide +kernel, by decide +kernel⟩
abbrev s_within : Stmt := topS 6
theorem sc_within : FnScope ["thing", "low", "high"] ["thing", "low", "high"] (defScope s_within) := ⟨rfl, rfl, rfl, by decide +kernel, rfl, by decide +kernel, by decide +kernel⟩
abbrev s_is_cell : Stmt := topS 7
theorem sc_is_cell : FnScope ["thing"] ["thing"] (defScope s_is_cell) := ⟨rfl, rfl, rfl, by decide +kernel, rfl, by decide +kernel, by decide +kernel⟩
abbrev s_are_cells : Stmt := topS 8
theorem sc_are_cells : FnScope ["thing"] ["thing"] (defScope s_are_cells) := ⟨rfl, rfl, rfl, by decide +kernel, rfl, by decide +kernel, by decide +kernel⟩
abbrev s_size_of : Stmt := topS 12
theorem sc_size_of : FnScope ["letters"] ["letters"] (defScope s_size_of) := ⟨rfl, rfl, rfl, by decide +kernel, rfl, by decide +kernel, by decide +kernel⟩
abbrev s_are_parts : Stmt := topS 13
theorem sc_are_parts : FnScope ["parts", "letters", "part", "letter", "low", "high"] ["parts", "letters"] (defScope s_are_parts) := ⟨rfl, rfl, rfl, by decide +kernel, rfl, by decide +kernel, by decide +kernel⟩
abbrev s_sense_in : Stmt := topS 14
theorem sc_sense_in : FnScope ["cells", "at", "word", "letters", "many", "parts", "spot", "letter"] ["cells", "at"] (defScope s_sense_in) := ⟨rfl, rfl, rfl, by decide +kernel, rfl, by decide +kernel, by decide +kernel⟩
abbrev s_part_at : Stmt := topS 15
theorem sc_part_at : FnScope ["cells", "at", "letter"] ["cells", "at", "letter"] (defScope s_part_at) := ⟨rfl, rfl, rfl, by decide +kernel, rfl, by decide +kernel, by decide +kernel⟩
abbrev s_parted : Stmt := topS 16
theorem sc_parted : FnScope ["cells", "found", "at", "here", "sense", "many"] ["cells"] (defScope s_parted) := ⟨rfl, rfl, rfl, by decide +kernel, rfl, by decide +kernel, by decide +kernel⟩
abbrev s_l_begun : Stmt := topS 18
theorem sc_l_begun : FnScope ["script", "wide", "grain"] ["script"] (defScope s_l_begun) := ⟨rfl, rfl, rfl, by decide +kernel, rfl, by decide +kernel, by decide +kernel⟩
abbrev s_l_mixed : Stmt := topS 19
theorem sc_l_mixed : FnScope ["draw", "turn", "found", "prime", "blend", "grain"] ["draw"] (defScope s_l_mixed) := ⟨rfl, rfl, rfl, by decide +kernel, rfl, by decide +kernel, by decide +kernel⟩
abbrev s_l_take : Stmt := topS 20
theorem sc_l_take : FnScope ["draw", "many", "found"] ["draw", "many"] (defScope s_l_take) := ⟨rfl, rfl, rfl, by decide +kernel, rfl, by decide +kernel, by decide +kernel⟩
abbrev s_l_pick : Stmt := topS 21
theorem sc_l_pick : FnScope ["draw", "some"] ["draw", "some"] (defScope s_l_pick) := ⟨rfl, rfl, rfl, by decide +kernel, rfl, by decide +kernel, by decide +kernel⟩
abbrev s_l_caught : Stmt := topS 22
theorem sc_l_caught : FnScope ["act", "found", "raised"] ["act"] (defScope s_l_caught) := ⟨rfl, rfl, rfl, by decide +kernel, rfl, by decide +kernel, by decide +kernel⟩
abbrev s_l_codes : Stmt := topS 23
theorem sc_l_codes : FnScope ["some"] [] (defScope s_l_codes) := ⟨rfl, rfl, rfl, by decide +kernel, rfl, by decide +kernel, by decide +kernel⟩
abbrev s_l_span : Stmt := topS 24
theorem sc_l_span : FnScope ["sign"] ["sign"] (defScope s_l_span) := ⟨rfl, rfl, rfl, by decide +kernel, rfl, by decide +kernel, by decide +kernel⟩
abbrev s_l_many : Stmt := topS 25
theorem sc_l_many : FnScope ["signs", "sign"] ["signs"] (defScope s_l_many) := ⟨rfl, rfl, rfl, by decide +kernel, rfl, by decide +kernel, by decide +kernel⟩
abbrev s_l_cells_of : Stmt := topS 26
theorem sc_l_cells_of : FnScope ["code", "signs", "parts", "cells", "sign", "part"] ["code", "signs", "parts"] (defScope s_l_cells_of) := ⟨rfl, rfl, rfl, by decide +kernel, rfl, by decide +kernel, by decide +kernel⟩
abbrev s_l_made : Stmt := topS 27
theorem sc_l_made : FnScope ["draw", "code", "word", "signs", "parts", "sign", "low", "end", "edge"] ["draw"] (defScope s_l_made) := ⟨rfl, rfl, rfl, by decide +kernel, rfl, by decide +kernel, by decide +kernel⟩
abbrev s_l_sense : Stmt := topS 28
theorem sc_l_sense : FnScope ["cells", "at", "code", "word", "signs", "parts", "place", "sign", "part", "low", "end"] ["cells", "at"] (defScope s_l_sense) := ⟨rfl, rfl, rfl, by decide +kernel, rfl, by decide +kernel, by decide +kernel⟩
abbrev s_l_walked : Stmt := topS 29
theorem sc_l_walked : FnScope ["cells", "found", "at", "told"] ["cells"] (defScope s_l_walked) := ⟨rfl, rfl, rfl, by decide +kernel, rfl, by decide +kernel, by decide +kernel⟩
abbrev s_l_is_walk : Stmt := topS 30
theorem sc_l_is_walk : FnScope ["cells", "due", "wrong", "told"] ["cells"] (defScope s_l_is_walk) := ⟨rfl, rfl, rfl, by decide +kernel, rfl, by decide +kernel, by decide +kernel⟩
abbrev s_law : Stmt := topS 31
theorem sc_law : FnScope ["script", "draw", "bends", "cells", "turn", "near", "bend", "one", "other", "first", "second", "here", "there", "shared", "told", "start"] ["script"] (defScope s_law) := ⟨rfl, rfl, rfl, by decide +kernel, rfl, by decide +kernel, by decide +kernel⟩
/-! ### heaps -/
def isTup : HO → Bool
  | .tup _ => true
  | .ext _ => true
  | .frz _ _ => true
  | _ => false
/-- all stands but what is at S and no tuple -/
def Kp (S : List Addr) (H H' : Hp) : Prop := ∀ b o, H b = some o → (isTup o = true ∨ b ∉ S) → H' b = some o
theorem Kp.refl {S : List Addr} {H : Hp} : Kp S H H := fun _ _ e _ => e
theorem Kp.trans {S : List Addr} {H H' H'' : Hp} (a : Kp S H H') (b : Kp S H' H'') : Kp S H H'' := fun x o e h => b x o (a x o e h) h
theorem Kp.mono {S S' : List Addr} {H H' : Hp} (h : ∀ b ∈ S, b ∈ S') (a : Kp S H H') : Kp S' H H' := fun x o e q => a x o e (q.imp id fun n m => n (h _ m))
theorem Kp.of {S : List Addr} {H H' : Hp} (a : Kp [] H H') : Kp S H H' := a.mono fun _ m => absurd m List.not_mem_nil
theorem Kp.new {S : List Addr} {H : Hp} {p : Addr} {o : HO} (n : H p = none) : Kp S H (upd H p o) := fun b x e _ => by rw [upd_ne (ne_of_none e n)]; exact e
theorem Kp.put {S : List Addr} {H0 H : Hp} {p : Addr} {o : HO} (a : Kp S H0 H) (n : H0 p = none) : Kp S H0 (upd H p o) := fun b x e h => by rw [upd_ne (ne_of_none e n)]; exact a b x e h
theorem Kp.put2 {S : List Addr} {H0 H : Hp} {p : Addr} {o : HO} (a : Kp S H0 H) (n : H p = none) : Kp S H0 (upd H p o) := a.trans (Kp.new n)
theorem Kp.tup {S : List Addr} {H H' : Hp} (a : Kp S H H') {b : Addr} {xs : List V} (e : H b = some (.tup xs)) : H' b = some (.tup xs) := a b _ e (.inl rfl)
theorem Kp.none {S : List Addr} {H H' : Hp} (a : Kp S H H') {b : Addr} (hb : b ∉ S) (e : H' b = Option.none) : H b = Option.none := by
  cases h : H b with
  | none => rfl
  | some o => rw [a b o h (.inr hb)] at e; cases e
theorem sqT {K : PySem.W.Frag} {H : Hp} {a : Addr} {xs : List V} (e : H a = some (.tup xs)) : SqT K H a xs := .inl (.inl e)
theorem sqL {K : PySem.W.Frag} {H : Hp} {a : Addr} {xs : List V} (e : H a = some (.lst xs)) : SqL K H a xs := .inl (.inl e)
/-! ### data -/
mutual
/-- x is a piece of data that stays while all but S stays -/
inductive Da (S : List Addr) (H : Hp) : V → PyData → Prop
  | non : Da S H .non .none
  | bl (b : Bool) : Da S H (.bl b) (.bool b)
  | int (i : Int) : Da S H (.int i) (.int i)
  | str (x : Str) : Da S H (.str x) (.str x)
  | lst {a : Addr} {xs : List V} {ds : List PyData} : H a = some (.lst xs) → a ∉ S → DaL S H xs ds → Da S H (.ref a) (.list ds)
  | tup {a : Addr} {xs : List V} {ds : List PyData} : H a = some (.tup xs) → DaL S H xs ds → Da S H (.ref a) (.tuple ds)
inductive DaL (S : List Addr) (H : Hp) : List V → List PyData → Prop
  | nil : DaL S H [] []
  | cons {v : V} {vs : List V} {d : PyData} {ds : List PyData} : Da S H v d → DaL S H vs ds → DaL S H (v :: vs) (d :: ds)
end
section
variable {K : PySem.W.Frag} {S : List Addr} {H H' : Hp}
mutual
theorem Da.kp (k : Kp S H H') : ∀ {d : PyData} {x : V}, Da S H x d → Da S H' x d
  | .none, _, .non => .non
  | .bool _, _, .bl _ => .bl _
  | .int _, _, .int _ => .int _
  | .str _, _, .str _ => .str _
  | .list _, _, .lst e n h => .lst (k _ _ e (.inr n)) n (DaL.kp k h)
  | .tuple _, _, .tup e h => .tup (k.tup e) (DaL.kp k h)
theorem DaL.kp (k : Kp S H H') : ∀ {ds : List PyData} {xs : List V}, DaL S H xs ds → DaL S H' xs ds
  | [], _, .nil => .nil
  | _ :: _, _, .cons h r => .cons (Da.kp k h) (DaL.kp k r)
end
mutual
theorem Da.dp : ∀ {d : PyData} {x : V}, Da S H x d → Dp K H x d
  | .none, _, .non => .non
  | .bool _, _, .bl _ => .bl _
  | .int _, _, .int _ => .int _
  | .str _, _, .str _ => .str _
  | .list _, _, .lst e _ h => .lst (sqL e) (DaL.dp h)
  | .tuple _, _, .tup e h => .tup (sqT e) (DaL.dp h)
theorem DaL.dp : ∀ {ds : List PyData} {xs : List V}, DaL S H xs ds → DpAll K H xs ds
  | [], _, .nil => .nil
  | _ :: _, _, .cons h r => .cons (Da.dp h) (DaL.dp r)
end
/-- the name of a piece of data's type -/
def tyD : PyData → String
  | .none => "NoneType"
  | .bool _ => "bool"
  | .int _ => "int"
  | .str _ => "str"
  | .list _ => "list"
  | .tuple _ => "tuple"
  | .dict _ => "dict"
theorem Da.ty {d : PyData} {x : V} (h : Da S H x d) : TyX K H x (.type (tyD d)) := by
  cases h with
  | non => exact .base .non
  | bl b => exact .base (.bl b)
  | int i => exact .base (.int i)
  | str x => exact .base (.str x)
  | lst e n h => exact .base (.lst e)
  | tup e h => exact .base (.tup e)
theorem DaL.len : ∀ {xs : List V} {ds : List PyData}, DaL S H xs ds → xs.length = ds.length
  | _, _, .nil => rfl
  | _, _, .cons _ r => congrArg (· + 1) (DaL.len r)
theorem DaL.get : ∀ {xs : List V} {ds : List PyData} (i : Nat), DaL S H xs ds → i < xs.length → ∃ x d, xs[i]? = some x ∧ ds[i]? = some d ∧ Da S H x d
  | _, _, _, .nil, h => absurd h (Nat.not_lt_zero _)
  | _, _, 0, .cons h _, _ => ⟨_, _, rfl, rfl, h⟩
  | _, _, i + 1, .cons _ r, h => DaL.get i r (Nat.lt_of_succ_lt_succ h)
theorem DaL.drop : ∀ {xs : List V} {ds : List PyData} (i : Nat), DaL S H xs ds → DaL S H (xs.drop i) (ds.drop i)
  | _, _, 0, h => h
  | _, _, _ + 1, .nil => .nil
  | _, _, i + 1, .cons _ r => DaL.drop i r
theorem DaL.app : ∀ {xs ys : List V} {ds es : List PyData}, DaL S H xs ds → DaL S H ys es → DaL S H (xs ++ ys) (ds ++ es)
  | _, _, _, _, .nil, h => h
  | _, _, _, _, .cons a r, h => .cons a (DaL.app r h)
theorem DaL.take : ∀ {xs : List V} {ds : List PyData} (i : Nat), DaL S H xs ds → DaL S H (xs.take i) (ds.take i)
  | _, _, 0, _ => .nil
  | _, _, _ + 1, .nil => .nil
  | _, _, i + 1, .cons h r => .cons h (DaL.take i r)
theorem DaL.ints : ∀ (ns : List Int), DaL S H (ns.map V.int) (ns.map PyData.int)
  | [] => .nil
  | _ :: r => .cons (.int _) (DaL.ints r)
end
def isInt : PyData → Bool
  | .int _ => true
  | _ => false
/-- is it a number from lo to hi? -/
def inB (lo hi : Int) : PyData → Bool
  | .int i => decide (lo ≤ i) && decide (i ≤ hi)
  | _ => false
theorem inB_int {lo hi : Int} {d : PyData} (h : inB lo hi d = true) : ∃ i, d = .int i ∧ lo ≤ i ∧ i ≤ hi := by
  cases d <;> simp [inB] at h
  exact ⟨_, rfl, h⟩
/-- isinstance(x, T) -/
theorem isi_ty {K : PySem.W.Frag} {S : List Addr} {H : Hp} {d : PyData} {x : V} {T : String} {b : Bool} {Q : VK} (h : Da S H x d) (e : kitB (tyD d) T = some b) (q : Q (.bl b) H) : rIsi K [x, .ty T] H Q :=
  ⟨x, .ty T, _, _, b, rfl, .ty T, h.ty, kit_ty e, q⟩
theorem k_int (d : PyData) (hd : ∀ l, d ≠ .dict l) : kitB (tyD d) "int" = some (isInt d || match d with | .bool _ => true | _ => false) := by
  cases d <;> first | rfl | decide +kernel | exact absurd rfl (hd _)
theorem k_bool (d : PyData) (hd : ∀ l, d ≠ .dict l) : kitB (tyD d) "bool" = some (match d with | .bool _ => true | _ => false) := by
  cases d <;> first | rfl | decide +kernel | exact absurd rfl (hd _)
theorem k_str (d : PyData) (hd : ∀ l, d ≠ .dict l) : kitB (tyD d) "str" = some (match d with | .str _ => true | _ => false) := by
  cases d <;> first | rfl | decide +kernel | exact absurd rfl (hd _)
theorem k_tup (d : PyData) (hd : ∀ l, d ≠ .dict l) : kitB (tyD d) "tuple" = some (match d with | .tuple _ => true | _ => false) := by
  cases d <;> first | rfl | decide +kernel | exact absurd rfl (hd _)
theorem Da.nd {S : List Addr} {H : Hp} {d : PyData} {x : V} (h : Da S H x d) : ∀ l, d ≠ .dict l := by
  intro l e
  subst e
  cases h
/-- the built-ins that nobody hides -/
structure Bi (mg : Str → Option Value) : Prop where
  m_isinstance : mg "isinstance" = none
  m_int : mg "int" = none
  m_bool : mg "bool" = none
  m_str : mg "str" = none
  m_tuple : mg "tuple" = none
  m_list : mg "list" = none
  m_len : mg "len" = none
  m_zip : mg "zip" = none
  m_range : mg "range" = none
  m_divmod : mg "divmod" = none
  m_abs : mg "abs" = none
  m_min : mg "min" = none
  m_all : mg "all" = none
section
variable {P : Program} {w : World} {K : PySem.W.Frag} {mg : Str → Option Value} {base : Heap}
/-! ### is_number -/
def spNum : Sp := fun vs H Q _ => ∃ S x d, vs = [x] ∧ Da S H x d ∧ Q (.bl (isInt d)) H
theorem ok_is_number {f : Addr} {fd : FuncData} {k : Nat} (F : Fun K "is_number" "is_number" s_is_number f fd) (T : Bi mg) : FnOk P w K mg base CX0 (k + 1) f fd ["thing"] spNum := by
  refine F.ok sc_is_number (fun vs H Q E h => ?_) (fun cdv A outer s H vs Q E hr h => ?_)
  · obtain ⟨_, _, _, rfl, _⟩ := h
    rfl
  · obtain ⟨S, x, d, rfl, hx, q⟩ := h
    refine ⟨_, (pss_one (ps_ret (pe_and (pe_callB call_isi (by rfl) T.m_isinstance (by decide +kernel) (pa_cons (pv 0) (pa_cons (pe_bltn (v := .ty "int") (by rfl) T.m_int (by decide +kernel) rfl) pa_nil))) (pe_one (pe_not (pe_callB call_isi (by rfl) T.m_isinstance (by decide +kernel) (pa_cons (pv 0) (pa_cons (pe_bltn (v := .ty "bool") (by rfl) T.m_bool (by decide +kernel) rfl) pa_nil)))))))), ?_⟩
    refine ⟨x, rfl, _, _, _, _, _, rfl, .ty _, hx.ty, kit_ty (k_int d hx.nd), _, rfl, ?_⟩
    cases d with
    | bool b => exact ⟨x, rfl, _, _, _, _, _, rfl, .ty _, hx.ty, kit_ty (k_bool _ hx.nd), _, rfl, q⟩
    | int b => exact ⟨x, rfl, _, _, _, _, _, rfl, .ty _, hx.ty, kit_ty (k_bool _ hx.nd), _, rfl, q⟩
    | _ => exact q
/-! ### within -/
def spWithin : Sp := fun vs H Q _ => ∃ S x d lo hi, vs = [x, .int lo, .int hi] ∧ Da S H x d ∧ Q (.bl (inB lo hi d)) H
theorem ok_within {f f1 : Addr} {fd fd1 : FuncData} {k : Nat} (F : Fun K "within" "within" s_within f fd) (F1 : Fun K "is_number" "is_number" s_is_number f1 fd1) (b1 : Binds K fd1 ["thing"] []) (g1 : mg "is_number" = some (.ref f1)) (G1 : FnOk P w K mg base CX0 (k + 1) f1 fd1 ["thing"] spNum) :
    FnOk P w K mg base CX0 (k + 2) f fd ["thing", "low", "high"] spWithin := by
  refine F.ok sc_within (fun vs H Q E h => ?_) (fun cdv A outer s H vs Q E hr h => ?_)
  · obtain ⟨_, _, _, _, _, rfl, _⟩ := h
    rfl
  · obtain ⟨S, x, d, lo, hi, rfl, hx, q⟩ := h
    refine ⟨_, (pss_one (ps_ret (pe_and (pe_call G1 hr (by rfl) g1 F1.kp b1 .nil pass0 (pa_cons (pv 0) pa_nil)) (pe_one (pe_chain op_le op_le (pv 1) (pv 0) (pv 2)))))), ?_⟩
    refine ⟨x, rfl, S, x, d, rfl, hx, _, rfl, ?_⟩
    cases hx with
    | int i =>
      refine ⟨_, rfl, _, rfl, lo, i, rfl, rfl, _, rfl, ?_⟩
      cases e : decide (lo ≤ i) with
      | true =>
        refine ⟨_, rfl, i, hi, rfl, rfl, ?_⟩
        simpa [inB, e] using q
      | false =>
        refine ?_
        simpa [inB, e] using q
    | _ => exact q
/-! ### is_cell -/
def spCell : Sp := fun vs H Q _ => ∃ S x d, vs = [x] ∧ Da S H x d ∧ Q (.bl (inB 0 63 d)) H
theorem ok_is_cell {f f1 : Addr} {fd fd1 : FuncData} {k : Nat} (F : Fun K "is_cell" "is_cell" s_is_cell f fd) (F1 : Fun K "within" "within" s_within f1 fd1) (b1 : Binds K fd1 ["thing", "low", "high"] []) (g1 : mg "within" = some (.ref f1)) (G1 : FnOk P w K mg base CX0 (k + 2) f1 fd1 ["thing", "low", "high"] spWithin) :
    FnOk P w K mg base CX0 (k + 3) f fd ["thing"] spCell := by
  refine F.ok sc_is_cell (fun vs H Q E h => ?_) (fun cdv A outer s H vs Q E hr h => ?_)
  · obtain ⟨_, _, _, rfl, _⟩ := h
    rfl
  · obtain ⟨S, x, d, rfl, hx, q⟩ := h
    refine ⟨_, (pss_one (ps_ret (pe_call G1 hr (by rfl) g1 F1.kp b1 .nil pass0 (pa_cons (pv 0) (pa_cons pe_int (pa_cons pe_int pa_nil)))))), ?_⟩
    exact ⟨x, rfl, S, x, d, 0, 63, rfl, hx, q⟩
/-! ### _law_is_number -/
def spLNum : Sp := fun vs H Q _ => ∃ S x d lo hi, vs = [x, .int lo, .int hi] ∧ Da S H x d ∧ Q (.bl (inB lo (hi - 1) d)) H
end
end K16
set_option Elab.async false
set_option linter.all false
set_option maxRecDepth 100000
set_option maxHeartbeats 4000000
namespace K16
open PySem PySem.Spec PyProof.Rows L2 Kb
/-! ### the mathematics -/
/-- code, word, letters -/
abbrev En : Type := Int × Str × Str
def formL : List En := [(1, "set", "rc"), (2, "copy", "rr"), (3, "plus", "rr"), (4, "less", "rr"), (5, "ask", "r"), (6, "show", "r"), (7, "load", "rD"), (8, "store", "rD"), (9, "item", "rrLD"), (10, "fill", "rrLD"), (11, "take", "pD"), (12, "pick", "prLD"),
  (13, "alike", "rpp"), (14, "call", "d"), (15, "call", "D"), (16, "jump", "d"), (17, "jump", "D"), (18, "if", "rd"), (19, "if", "rD"), (20, "leap", "p"), (21, "return", ""), (22, "stop", ""), (23, "fail", "f"), (27, "by load", "rkD"), (28, "by store", "rkD"),
  (29, "by item", "rrLD"), (30, "by fill", "rrLD"), (31, "by take", "pD"), (32, "by pick", "prLD"), (35, "by call", "D"), (37, "by jump", "D")]
def lawL : List En := [(1, "set", "rc"), (2, "copy", "rr"), (3, "plus", "rr"), (4, "less", "rr"), (5, "ask", "r"), (6, "show", "r"), (7, "load", "rD"), (8, "store", "rD"), (9, "item", "rrLD"), (10, "fill", "rrLD"), (11, "take", "pD"), (12, "pick", "prLD"),
  (13, "alike", "rpp"), (14, "call", "d"), (15, "call", "D"), (16, "jump", "d"), (17, "jump", "D"), (18, "if", "rd"), (19, "if", "rD"), (20, "leap", "p"), (21, "return", ""), (22, "stop", ""), (23, "fail", "f"), (27, "by load", "rcD"), (28, "by store", "rcD"),
  (29, "by item", "rrLD"), (30, "by fill", "rrLD"), (31, "by take", "pD"), (32, "by pick", "prLD"), (35, "by call", "D"), (37, "by jump", "D")]
def limL : List (Str × Int × Int) := [("r", 0, 3), ("p", 0, 1), ("c", 0, 63), ("k", 0, 63), ("f", 0, 62), ("L", 1, 64), ("d", -32, 31), ("D", -2048, 2047)]
/-- a text of one sign -/
def one (c : Nat) : Str := ⟨#[c]⟩
def lets (z : Str) : List Str := z.cps.toList.map one
theorem lets_len (z : Str) : (lets z).length = z.length := by
  show (z.cps.toList.map one).length = z.cps.size
  simp
def lim (z : Str) : Option (Int × Int) := (limL.find? fun q => decide (q.1 = z)).map (·.2)
def isD (z : Str) : Bool := decide (z = ("D" : Str))
/-- how many cells -/
def size (z : Str) : Int := 1 + z.length + Txt.count z "D"
/-- the letters' limits: all there -/
def limsOf (ls : List Str) : Option (List (Int × Int)) := ls.mapM lim
def okLet (z : Str) : Bool := (lim z).isSome && decide (size z = if isD z then 3 else 2)
def okEn (e : En) : Bool := decide (e.2.2.length ≤ 4) && decide (e.2.1.length ≤ 8) && (lets e.2.2).all okLet && decide (size e.2.2 = 1 + e.2.2.length + ((lets e.2.2).filter isD).length) && decide (1 ≤ e.1) && decide (e.1 ≤ 37) && decide (size e.2.2 ≤ 6)
theorem form_ok : ∀ e ∈ formL, okEn e = true := by decide +kernel
theorem law_ok : ∀ e ∈ lawL, okEn e = true := by decide +kernel
/-- the two tables tell the same -/
def alikeEn (e e' : En) : Bool := decide (e.1 = e'.1) && decide (e.2.1 = e'.2.1) && decide ((lets e.2.2).map lim = (lets e'.2.2).map lim) && decide ((lets e.2.2).map isD = (lets e'.2.2).map isD) && decide (size e.2.2 = size e'.2.2) &&
  decide ((lets e.2.2).map (fun z => decide (z = ("d" : Str))) = (lets e'.2.2).map fun z => decide (z = ("d" : Str))) && decide ((lets e.2.2).map (fun z => decide (z = ("L" : Str))) = (lets e'.2.2).map fun z => decide (z = ("L" : Str)))
theorem tables_alike : (formL.zip lawL).all (fun p => alikeEn p.1 p.2) = true ∧ formL.length = 31 ∧ lawL.length = 31 := by decide +kernel
theorem codes_nd : (formL.map (·.1)).Nodup := by decide +kernel
/-! #### cells of a part -/
def encP (z : Str) (p : Int) : List Int := if isD z then [p % 4096 / 64, p % 4096 % 64] else [p % 64]
def encL (z : Str) (p : Int) : List Int := (if isD z then [(p + 4096) % 4096 / 64] else []) ++ [(p + 4096) % 64]
theorem enc_eq (z : Str) (p : Int) : encP z p = encL z p := by
  unfold encP encL
  cases isD z with
  | true =>
    show [p % 4096 / 64, p % 4096 % 64] = [(p + 4096) % 4096 / 64] ++ [(p + 4096) % 64]
    rw [show (p + 4096) % 4096 = p % 4096 by omega, show (p + 4096) % 64 = p % 4096 % 64 by omega] <;> rfl
  | false =>
    show [p % 64] = [] ++ [(p + 4096) % 64]
    rw [show (p + 4096) % 64 = p % 64 by omega] <;> rfl
/-! #### a part of cells -/
def decP (z : Str) (a b : Int) : Int := if z = ("D" : Str) then (a * 64 + b + 2048) % 4096 - 2048 else if z = ("d" : Str) then (a + 32) % 64 - 32 else if z = ("L" : Str) ∧ a = 0 then 64 else a
def decL (z : Str) (a b : Int) : Int := if z = ("D" : Str) then (if a * 64 + b > 2047 then a * 64 + b - 4096 else a * 64 + b) else if z = ("d" : Str) then (if a > 31 then a - 64 else a) else if z = ("L" : Str) then (if a = 0 then 64 else a) else a
theorem dec_eq {z : Str} {a b : Int} (ha : 0 ≤ a) (ha2 : a ≤ 63) (hb : 0 ≤ b) (hb2 : b ≤ 63) : decP z a b = decL z a b := by
  unfold decP decL
  by_cases h1 : z = ("D" : Str)
  · rw [if_pos h1, if_pos h1]
    split <;> omega
  · rw [if_neg h1, if_neg h1]
    by_cases h2 : z = ("d" : Str)
    · rw [if_pos h2, if_pos h2]
      split <;> omega
    · rw [if_neg h2, if_neg h2]
      by_cases h3 : z = ("L" : Str)
      · rw [if_pos h3]
        by_cases h4 : a = 0
        · rw [if_pos ⟨h3, h4⟩, if_pos h4]
        · rw [if_neg (fun q => h4 q.2), if_neg h4]
      · rw [if_neg (fun q => h3 q.1), if_neg h3]
end K16
set_option Elab.async false
set_option linter.all false
set_option maxRecDepth 100000
set_option maxHeartbeats 4000000
namespace K16
open PySem PySem.Spec PyProof.Rows L2 Kb
theorem for_by {J : It} {n : Nat} {g : TG} {tb : TS} {D : Ends} {σ : L2.St} {H : Hp} (Pv : Nat → L2.St → Hp → Prop) (h0 : Pv 0 σ H)
    (hs : ∀ i σ H, i < n → Pv i σ H → J.go i H ∧ ∀ x H', J.yld i H x H' → g x σ H' fun σ2 H2 => tb { D with nx := Pv (i + 1), ct := Pv (i + 1), bk := D.nx } σ2 H2) (hd : ∀ σ H, Pv n σ H → J.stop n H ∧ D.nx σ H) :
    ∃ W : Nat → Nat → L2.St → Hp → Prop, (∃ m, W 0 m σ H) ∧ ∀ i m σ H, W i m σ H →
      (J.stop i H ∧ D.nx σ H) ∨ (J.go i H ∧ ∃ N : L2.St → Hp → Prop, (∀ σ' H', N σ' H' → ∃ m', m' < m ∧ W (i + 1) m' σ' H') ∧ ∀ x H', J.yld i H x H' → g x σ H' fun σ2 H2 => tb { D with nx := N, ct := N, bk := D.nx } σ2 H2) := by
  refine ⟨fun i m σ H => m = n - i ∧ i ≤ n ∧ Pv i σ H, ⟨n, by simp, Nat.zero_le _, h0⟩, ?_⟩
  rintro i m σ H ⟨rfl, hi, p⟩
  by_cases hlt : i < n
  · obtain ⟨h1, h2⟩ := hs i σ H hlt p
    exact .inr ⟨h1, Pv (i + 1), fun σ' H' p' => ⟨n - (i + 1), by omega, rfl, hlt, p'⟩, h2⟩
  · have e : i = n := by omega
    subst e
    exact .inl (hd σ H p)
/-- a written tuple -/
def KT (K : PySem.W.Frag) (a : Addr) (xs : List V) : Prop :=
  ∃ (o : Obj) (its : Array Value) (n : Nat), K.lookup a = some o ∧ o.cls = .type "tuple" ∧ o.data = .seq its n ∧ its.size ≤ sizeLine ∧ Vals xs its.toList
theorem KT.sq {K : PySem.W.Frag} {H : Hp} {a : Addr} {xs : List V} (h : KT K a xs) : SqT K H a xs := .inr h
def FormOk (K : PySem.W.Frag) (p : Key × V) (e : En) : Prop := p.1 = .inl e.1 ∧ ∃ T, p.2 = .ref T ∧ KT K T [.str e.2.1, .str e.2.2]
def LimOk (K : PySem.W.Frag) (p : Key × V) (q : Str × Int × Int) : Prop := p.1 = .inr q.1 ∧ ∃ T, p.2 = .ref T ∧ KT K T [.int q.2.1, .int q.2.2]
/-- what the top's two tables hold -/
structure Dicts (w : World) (K : PySem.W.Frag) (aF aL : Addr) : Prop where
  forms : ∃ kvs, KD w K aF kvs ∧ Paired (FormOk K) kvs formL
  lims : ∃ kvs, KD w K aL kvs ∧ Paired (LimOk K) kvs limL
theorem look_form {K : PySem.W.Frag} {c : Int} : ∀ {kvs : List (Key × V)} {l : List En}, Paired (FormOk K) kvs l →
    (l.find? (fun e => decide (e.1 = c)) = none ∧ valV kvs (.inl c) = none) ∨ ∃ e T, l.find? (fun e => decide (e.1 = c)) = some e ∧ e ∈ l ∧ e.1 = c ∧ valV kvs (.inl c) = some (.ref T) ∧ KT K T [.str e.2.1, .str e.2.2]
  | _, _, .nil => .inl ⟨rfl, rfl⟩
  | _, _, .cons (a := p) (b := e) h r => by
    obtain ⟨h1, T, h2, h3⟩ := h
    obtain ⟨k, v⟩ := p
    dsimp only at h1 h2
    subst h1 h2
    by_cases hc : e.1 = c
    · refine .inr ⟨e, T, ?_, List.mem_cons_self, hc, ?_, h3⟩
      · rw [List.find?_cons, decide_eq_true hc] <;> rfl
      · unfold valV
        rw [List.find?_cons]
        have z : decide ((Sum.inl e.1 : Key) = .inl c) = true := decide_eq_true (congrArg _ hc)
        rw [z] <;> rfl
    · have z : decide ((Sum.inl e.1 : Key) = .inl c) = false := decide_eq_false fun q => hc (Sum.inl.inj q)
      rcases look_form r with ⟨a, b⟩ | ⟨e', T', a, b, b2, b3, b4⟩
      · refine .inl ⟨?_, ?_⟩
        · rw [List.find?_cons, decide_eq_false hc]; exact a
        · unfold valV; rw [List.find?_cons, z]; exact b
      · refine .inr ⟨e', T', ?_, List.mem_cons_of_mem _ b, b2, ?_, b4⟩
        · rw [List.find?_cons, decide_eq_false hc]; exact a
        · unfold valV; rw [List.find?_cons, z]; exact b3
theorem look_lim {K : PySem.W.Frag} {c : Str} {lo hi : Int} : ∀ {kvs : List (Key × V)} {l : List (Str × Int × Int)}, Paired (LimOk K) kvs l → (l.find? fun q => decide (q.1 = c)).map (·.2) = some (lo, hi) →
    ∃ T, valV kvs (.inr c) = some (.ref T) ∧ KT K T [.int lo, .int hi]
  | _, _, .nil, e => by cases e
  | _, _, .cons (a := p) (b := q) h r, e => by
    obtain ⟨h1, T, h2, h3⟩ := h
    obtain ⟨k, v⟩ := p
    dsimp only at h1 h2
    subst h1 h2
    by_cases hc : q.1 = c
    · rw [List.find?_cons, decide_eq_true hc] at e
      have e2 : q.2 = (lo, hi) := Option.some.inj e
      refine ⟨T, ?_, ?_⟩
      · unfold valV
        rw [List.find?_cons]
        have z : decide ((Sum.inr q.1 : Key) = .inr c) = true := decide_eq_true (congrArg _ hc)
        rw [z] <;> rfl
      · rw [e2] at h3
        exact h3
    · rw [List.find?_cons, decide_eq_false hc] at e
      have z : decide ((Sum.inr q.1 : Key) = .inr c) = false := decide_eq_false fun y => hc (Sum.inr.inj y)
      obtain ⟨T', a, b⟩ := look_lim r e
      refine ⟨T', ?_, b⟩
      unfold valV
      rw [List.find?_cons, z]
      exact a
section
variable {P : Program} {w : World} {K : PySem.W.Frag} {mg : Str → Option Value} {base : Heap}
/-! ### size_of -/
def spSize : Sp := fun vs H Q _ => ∃ z : Str, vs = [.str z] ∧ z.length ≤ sizeLine ∧ Q (.int (size z)) H
theorem ok_size_of {f : Addr} {fd : FuncData} {k : Nat} (F : Fun K "size_of" "size_of" s_size_of f fd) (T : Bi mg) : FnOk P w K mg base CX0 (k + 1) f fd ["letters"] spSize := by
  refine F.ok sc_size_of (fun vs H Q E h => ?_) (fun cdv A outer s H vs Q E hr h => ?_)
  · obtain ⟨_, rfl, _⟩ := h
    rfl
  · obtain ⟨z, rfl, hl, q⟩ := h
    refine ⟨_, (pss_one (ps_ret (pe_op op_add (pe_op op_add pe_int (pe_callB call_len (by rfl) T.m_len (by decide +kernel) (pa_cons (pv 0) pa_nil))) (pe_bm PySem.F.plainAttrs_str PySem.F.slot_str_count PySem.F.type_str_count mt_count (pv 0) (pa_cons pe_str pa_nil))))), ?_⟩
    exact ⟨.str z, rfl, .str z, z.length, rfl, ⟨hl, rfl⟩, 1, _, rfl, rfl, .str z, rfl, rfl, z, _, rfl, rfl, _, _, rfl, rfl, q⟩
/-! ### part_cells -/
def spPartCells : Sp := fun vs H Q _ => ∃ (p : Int) (z : Str), vs = [.int p, .str z] ∧ ∀ H' l, Kp [] H H' → H l = none → H' l = some (.lst ((encP z p).map V.int)) → Q (.ref l) H'
/-! ### part_at -/
/-- a list or a tuple of these -/
def SqE (K : PySem.W.Frag) (H : Hp) (a : Addr) (xs : List V) : Prop := SqL K H a xs ∨ SqT K H a xs
theorem atI_at {α : Type} {xs : List α} {n : Nat} {x : α} (h : xs[n]? = some x) : atI xs (n : Int) = some x := by
  have hn : n < xs.length := (List.getElem?_eq_some_iff.mp h).1
  unfold atI ixN
  rw [if_pos (by omega), if_pos (by omega)]
  show (some (Int.toNat n)).bind _ = _
  rw [Int.toNat_natCast]
  exact h
theorem ixE {H : Hp} {a : Addr} {xs : List V} {n : Nat} {x : V} {Q : VK} (h : SqE K H a xs) (e : xs[n]? = some x) (q : Q x H) : rIx K (.ref a) (.int n) H Q := by
  rcases h with h | h
  · exact .inl ⟨a, xs, _, x, rfl, rfl, h, atI_at e, q⟩
  · exact .inr (.inl ⟨a, xs, _, x, rfl, rfl, h, atI_at e, q⟩)
def spPartAt (K : PySem.W.Frag) : Sp := fun vs H Q _ => ∃ (a : Addr) (n : Nat) (z : Str) (ns : List Int) (x y : Int), vs = [.ref a, .int n, .str z] ∧ SqE K H a (ns.map V.int) ∧ ns[n]? = some x ∧ (z = ("D" : Str) → ns[n + 1]? = some y) ∧ -64 ≤ x ∧ x ≤ 64 ∧ Q (.int (decP z x y)) H
theorem ok_part_at {f : Addr} {fd : FuncData} {k : Nat} (F : Fun K "part_at" "part_at" s_part_at f fd) (T : Bi mg) : FnOk P w K mg base CX0 (k + 1) f fd ["cells", "at", "letter"] (spPartAt K) := by
  refine F.ok sc_part_at (fun vs H Q E h => ?_) (fun cdv A outer s H vs Q E hr h => ?_)
  · obtain ⟨_, _, _, _, _, _, rfl, _⟩ := h
    rfl
  · obtain ⟨a, n, z, ns, x, y, rfl, hS, hx, hy, hb1, hb2, q⟩ := h
    have gx : (ns.map V.int)[n]? = some (.int x) := by rw [List.getElem?_map, hx] <;> rfl
    refine ⟨_, (pss_cons (ps_if (pt_cmpR op_eq (pv 2) pe_str (nomark _)) (pss_one (ps_ret (pe_op op_sub (pe_op op_mod (pe_op op_add (pe_op op_add (pe_op op_mul (pe_ix ix_seq (pv 0) (pv 1) (fun _ _ => rfl)) pe_int) (pe_ix ix_seq (pv 0) (pe_op op_add (pv 1) pe_int) (fun _ _ => rfl))) pe_int) pe_int) pe_int))) pss_nil)
      (pss_cons (ps_if (pt_cmpR op_eq (pv 2) pe_str (nomark _)) (pss_one (ps_ret (pe_op op_sub (pe_op op_mod (pe_op op_add (pe_ix ix_seq (pv 0) (pv 1) (fun _ _ => rfl)) pe_int) pe_int) pe_int))) pss_nil)
      (pss_cons (ps_if (PW.pt (pw_and (pt_cmpR op_eq (pv 2) pe_str (nomark _)) (pw_and1 (pt_cmpR op_eq (pe_ix ix_seq (pv 0) (pv 1) (fun _ _ => rfl)) pe_int (nomark _))))) (pss_one (ps_ret pe_int)) pss_nil)
      (pss_one (ps_ret (pe_ix ix_seq (pv 0) (pv 1) (fun _ _ => rfl))))))), ?_⟩
    refine ⟨.str z, rfl, rfl, _, rfl, ite2 (fun e => ?_) (fun e => ?_)⟩
    · have ez : z = ("D" : Str) := V.str.inj (of_decide_eq_true e)
      have gy : (ns.map V.int)[n + 1]? = some (.int y) := by rw [List.getElem?_map, hy ez] <;> rfl
      refine ⟨.ref a, rfl, .int n, rfl, ixE hS gx ⟨x, 64, rfl, rfl, .inr (by decide), .ref a, rfl, .int n, rfl, n, 1, rfl, rfl, ixE (n := n + 1) hS gy ⟨_, _, rfl, rfl, _, _, rfl, rfl, _, _, rfl, rfl, (by show (0 : Int) < _; decide), _, _, rfl, rfl, ?_⟩⟩⟩
      unfold decP at q
      rw [if_pos ez] at q
      exact q
    · have ez : ¬ z = ("D" : Str) := fun y => e (decide_eq_true (congrArg V.str y))
      refine ⟨.str z, rfl, rfl, _, rfl, ite2 (fun e => ?_) (fun e => ?_)⟩
      · have ez2 : z = ("d" : Str) := V.str.inj (of_decide_eq_true e)
        refine ⟨.ref a, rfl, .int n, rfl, ixE hS gx ⟨_, _, rfl, rfl, _, _, rfl, rfl, (by show (0 : Int) < _; decide), _, _, rfl, rfl, ?_⟩⟩
        unfold decP at q
        rw [if_neg ez, if_pos ez2] at q
        exact q
      · have ez2 : ¬ z = ("d" : Str) := fun y => e (decide_eq_true (congrArg V.str y))
        unfold decP at q
        rw [if_neg ez, if_neg ez2] at q
        refine ⟨.str z, rfl, rfl, _, rfl, ite2 (fun e => ?_) (fun e => ?_)⟩
        · have ez3 : z = ("L" : Str) := V.str.inj (of_decide_eq_true e)
          refine ⟨.ref a, rfl, .int n, rfl, ixE hS gx ⟨rfl, _, rfl, ite2 (fun e => ?_) (fun e => ?_)⟩⟩
          · have ex : x = 0 := V.int.inj (of_decide_eq_true e)
            rw [if_pos ⟨ez3, ex⟩] at q
            exact q
          · have ex : ¬ x = 0 := fun y => e (decide_eq_true (congrArg V.int y))
            rw [if_neg (fun y => ex y.2)] at q
            exact ⟨.ref a, rfl, .int n, rfl, ixE hS gx q⟩
        · have ez3 : ¬ z = ("L" : Str) := fun y => e (decide_eq_true (congrArg V.str y))
          rw [if_neg (fun y => ez3 y.1)] at q
          refine ite2 (fun e => Bool.noConfusion e) fun _ => ?_
          exact ⟨.ref a, rfl, .int n, rfl, ixE hS gx q⟩
end
end K16
set_option Elab.async false
set_option linter.all false
set_option maxRecDepth 100000
set_option maxHeartbeats 4000000
namespace K16
open PySem PySem.Spec PyProof.Rows L2 Kb
theorem Kp.same {H H' : Hp} (k : Kp [] H H') : Same H H' := fun b o e => k b o e (.inr List.not_mem_nil)
theorem SqE.kp {K : PySem.W.Frag} {H H' : Hp} {a : Addr} {xs : List V} (k : Kp [] H H') : SqE K H a xs → SqE K H' a xs
  | .inl h => .inl (k.same.seq h)
  | .inr h => .inr (h.imp (fun q => q.imp (fun e => k.same _ _ e) fun ⟨o, e⟩ => ⟨o, k.same _ _ e⟩) id)
def partOk (p : PyData × Str) : Bool := match lim p.2 with
  | some (lo, hi) => inB lo hi p.1
  | none => false
def partsOk (ds : List PyData) (ls : List Str) : Bool := (ds.zip ls).all partOk
theorem lets_get {z : Str} {i : Nat} {y : V} (h : (Sc.txt z).val i = some y) : ∃ c, y = .str (one c) ∧ (lets z)[i]? = some (one c) := by
  obtain ⟨c, hc, rfl⟩ := Option.map_eq_some_iff.mp (show (z.cps[i]?).map (fun c => V.str ⟨#[c]⟩) = some y from h)
  refine ⟨c, rfl, ?_⟩
  show (z.cps.toList.map one)[i]? = some (one c)
  rw [List.getElem?_map, Array.getElem?_toList, hc] <;> rfl
theorem SqE.sc {K : PySem.W.Frag} {H : Hp} {a : Addr} {xs : List V} (h : SqE K H a xs) : ∃ S : Sc, S.v = .ref a ∧ S.len = xs.length ∧ (∀ i, S.val i = xs[i]?) ∧ (∀ H', SqE K H' a xs → (SqL K H a xs → SqL K H' a xs) → (SqT K H a xs → SqT K H' a xs) → S.ok K H') := by
  rcases h with h | h
  · exact ⟨.lst a xs, rfl, rfl, fun _ => rfl, fun H' _ q _ => q h⟩
  · exact ⟨.tup a xs, rfl, rfl, fun _ => rfl, fun H' _ _ q => q h⟩
theorem sqL_kp {K : PySem.W.Frag} {H H' : Hp} {a : Addr} {xs : List V} (k : Kp [] H H') (h : SqL K H a xs) : SqL K H' a xs := k.same.seq h
theorem sqT_kp {K : PySem.W.Frag} {H H' : Hp} {a : Addr} {xs : List V} (k : Kp [] H H') (h : SqT K H a xs) : SqT K H' a xs := by
  have q : SqE K H' a xs := SqE.kp k (.inr h)
  rcases h with h | h
  · exact .inl (h.imp (fun e => k.same _ _ e) fun ⟨o, e⟩ => ⟨o, k.same _ _ e⟩)
  · exact .inr h
theorem all_take_succ {α : Type} {p : α → Bool} {l : List α} {i : Nat} {x : α} (h : (l.take i).all p = true) (e : l[i]? = some x) : (l.take (i + 1)).all p = p x := by
  rw [List.take_add_one, e, List.all_append, h]
  simp
theorem all_false_at {α : Type} {p : α → Bool} {l : List α} {i : Nat} {x : α} (e : l[i]? = some x) (h : p x = false) : l.all p = false := by
  cases q : l.all p with
  | false => rfl
  | true =>
    have z := List.all_eq_true.mp q x (List.mem_of_getElem? e)
    rw [h] at z
    cases z
section
variable {P : Program} {w : World} {K : PySem.W.Frag} {mg : Str → Option Value} {base : Heap}
/-! ### are_parts -/
def spAreParts (K : PySem.W.Frag) : Sp := fun vs H Q _ => ∃ (S : List Addr) (a : Addr) (xs : List V) (ds : List PyData) (z : Str), vs = [.ref a, .str z] ∧ SqE K H a xs ∧ DaL S H xs ds ∧ (∀ l ∈ lets z, (lim l).isSome = true) ∧
  ∀ H', Kp [] H H' → Q (.bl (partsOk ds (lets z))) H'
theorem ok_are_parts {f f1 aF aL : Addr} {fd fd1 : FuncData} {k : Nat} (F : Fun K "are_parts" "are_parts" s_are_parts f fd) (T : Bi mg) (D : Dicts w K aF aL) (gL : mg "LIMITS" = some (.ref aL))
    (F1 : Fun K "within" "within" s_within f1 fd1) (b1 : Binds K fd1 ["thing", "low", "high"] []) (g1 : mg "within" = some (.ref f1)) (G1 : FnOk P w K mg base CX0 (k + 2) f1 fd1 ["thing", "low", "high"] spWithin) :
    FnOk P w K mg base CX0 (k + 3) f fd ["parts", "letters"] (spAreParts K) := by
  refine F.ok sc_are_parts (fun vs H Q E h => ?_) (fun cdv A outer s H vs Q E hr h => ?_)
  · obtain ⟨_, _, _, _, _, rfl, _⟩ := h
    rfl
  · obtain ⟨S, a, xs, ds, z, rfl, hS, hD, hl, q⟩ := h
    obtain ⟨kvs, hk, hkL⟩ := D.lims
    refine ⟨_, (pss_cons (ps_for PassesOwn.never rfl (pi_zipU (by rfl) T.m_zip (pa_cons (pv 0) (pa_cons (pv 1) pa_nil))) (pg_tup (by rfl) (pgs_cons (pg_name (i := 2) sc_are_parts.nd rfl (.inl rfl)) (pgs_cons (pg_name (i := 3) sc_are_parts.nd rfl (.inl rfl)) pgs_nil))) (pss_cons (ps_asg (pe_ix ix_kd (pe_glob (v := .ref aL) (by rfl) gL rfl) (pv 3) (fun _ _ => rfl)) (pg_tup (by rfl) (pgs_cons (pg_name (i := 4) sc_are_parts.nd rfl (.inl rfl)) (pgs_cons (pg_name (i := 5) sc_are_parts.nd rfl (.inl rfl)) pgs_nil))))
        (pss_one (ps_if (pt_not (pt_val (pe_call G1 hr (by rfl) g1 F1.kp b1 .nil pass0 (pa_cons (pv 2) (pa_cons (pv 4) (pa_cons (pv 5) pa_nil)))))) (pss_one (ps_ret pe_bl)) pss_nil))))
      (pss_one (ps_ret pe_bl))), ?_⟩
    obtain ⟨S1, e1, e2, e3, e4⟩ := hS.sc
    have ok1 : ∀ H', Kp [] H H' → S1.ok K H' := fun H' k => e4 H' (hS.kp k) (sqL_kp k) (sqT_kp k)
    refine ⟨.ref a, rfl, .str z, rfl, S1, .txt z, by rw [e1] <;> rfl, ok1 H .refl, trivial, ?_⟩
    have len1 : min S1.len (Sc.txt z).len = (ds.zip (lets z)).length := by
      rw [List.length_zip, lets_len, e2, hD.len] <;> rfl
    refine for_by (n := (ds.zip (lets z)).length) (fun i σ H' => Kp [] H H' ∧ ((ds.zip (lets z)).take i).all partOk = true ∧ ∃ y2 y3 y4 y5, σ = [some (.ref a), some (.str z), y2, y3, y4, y5]) ⟨.refl, rfl, _, _, _, _, rfl⟩ ?_ ?_
    · rintro i σ H1 hi ⟨k1, hall, y2, y3, y4, y5, rfl⟩
      refine ⟨⟨ok1 H1 k1, trivial, by rw [len1]; exact hi⟩, ?_⟩
      rintro v H2 ⟨t, x, y, rfl, nt, rfl, hx, hy⟩
      obtain ⟨c, rfl, hc⟩ := lets_get hy
      rw [e3] at hx
      have hix : i < xs.length := (List.getElem?_eq_some_iff.mp hx).1
      obtain ⟨x', d, gx, gd, dx⟩ := hD.get i hix
      cases hx.symm.trans gx
      have gz : (ds.zip (lets z))[i]? = some (d, one c) := by
        rw [List.getElem?_zip_eq_some]
        exact ⟨gd, hc⟩
      have hls := hl (one c) (List.mem_of_getElem? hc)
      obtain ⟨⟨lo, hi'⟩, hlim⟩ := Option.isSome_iff_exists.mp hls
      obtain ⟨T', hv, hT⟩ := look_lim hkL hlim
      have k2 : Kp [] H (upd H1 t (.tup [x, .str (one c)])) := k1.trans (Kp.new nt)
      have step := all_take_succ hall gz
      have ep : partOk (d, one c) = inB lo hi' d := by
        unfold partOk
        rw [hlim]
      refine ⟨t, [x, .str (one c)], rfl, sqT upd_same, rfl, x, [.str (one c)], rfl, .str (one c), [], rfl, rfl, ?_⟩
      refine ⟨.str (one c), rfl, aL, kvs, .inr (one c), .ref T', rfl, rfl, hk, hv, T', [.int lo, .int hi'], rfl, hT.sq, rfl, _, _, rfl, _, _, rfl, rfl, ?_⟩
      refine ⟨x, rfl, .int lo, rfl, .int hi', rfl, S, x, d, lo, hi', rfl, dx.kp k2.of, _, rfl, ?_⟩
      cases e : inB lo hi' d with
      | true =>
        refine ite2 (fun y => Bool.noConfusion y) fun _ => ?_
        exact ⟨k2, by rw [step, ep, e], _, _, _, _, rfl⟩
      | false =>
        refine ite2 (fun _ => ?_) fun y => absurd rfl y
        have := q _ k2
        unfold partsOk at this
        rw [all_false_at gz (by rw [ep, e])] at this
        exact this
    · rintro σ H1 ⟨k1, hall, y2, y3, y4, y5, rfl⟩
      refine ⟨⟨ok1 H1 k1, trivial, by rw [len1]⟩, ?_⟩
      rw [List.take_length] at hall
      have := q _ k1
      unfold partsOk at this
      rw [hall] at this
      exact this
end
end K16
set_option Elab.async false
set_option linter.all false
set_option maxRecDepth 100000
set_option maxHeartbeats 4000000
namespace K16
open PySem PySem.Spec PyProof.Rows L2 Kb
/-! #### a walk over cells -/
def wd (z : Str) : Nat := if isD z then 2 else 1
def wds (ls : List Str) : Nat := (ls.map wd).sum
def decs (ns : List Int) : Nat → List Str → List Int
  | _, [] => []
  | j, z :: r => decP z (ns.getD j 0) (ns.getD (j + 1) 0) :: decs ns (j + wd z) r
theorem decs_snoc (ns : List Int) (z : Str) : ∀ (l : List Str) (j : Nat), decs ns j (l ++ [z]) = decs ns j l ++ [decP z (ns.getD (j + wds l) 0) (ns.getD (j + wds l + 1) 0)]
  | [], j => rfl
  | y :: r, j => by
    show decP y _ _ :: decs ns (j + wd y) (r ++ [z]) = decP y _ _ :: (decs ns (j + wd y) r ++ _)
    rw [decs_snoc ns z r (j + wd y)]
    have e : j + wd y + wds r = j + wds (y :: r) := by
      show j + wd y + wds r = j + (wd y + wds r)
      omega
    rw [e]
theorem decs_len (ns : List Int) : ∀ (l : List Str) (j : Nat), (decs ns j l).length = l.length
  | [], _ => rfl
  | _ :: r, j => congrArg (· + 1) (decs_len ns r _)
theorem wds_app (l m : List Str) : wds (l ++ m) = wds l + wds m := by
  unfold wds
  rw [List.map_append, List.sum_append]
theorem wds_filter : ∀ l : List Str, wds l = l.length + (l.filter isD).length
  | [] => rfl
  | z :: r => by
    have ih := wds_filter r
    show wd z + wds r = (z :: r).length + _
    rw [List.filter_cons]
    unfold wd
    cases isD z with
    | true =>
      show 2 + wds r = r.length + 1 + ((r.filter isD).length + 1)
      omega
    | false =>
      show 1 + wds r = r.length + 1 + (r.filter isD).length
      omega
/-- what the row of cells means at n: word, parts, how many cells -/
def senseOf (ns : List Int) (n : Nat) : Option (Str × List Int × Int) := match formL.find? (fun e => decide (e.1 = ns.getD n 0)) with
  | none => none
  | some e => if (ns.length : Int) < n + size e.2.2 then none else if partsOk ((decs ns (n + 1) (lets e.2.2)).map .int) (lets e.2.2) then some (e.2.1, decs ns (n + 1) (lets e.2.2), size e.2.2) else none
def sensePy : Option (Str × List Int × Int) → PyData
  | none => .none
  | some (wd, ps, m) => .tuple [.tuple (.str wd :: ps.map .int), .int m]
theorem okEn_of {e : En} (h : okEn e = true) : e.2.2.length ≤ 4 ∧ e.2.1.length ≤ 8 ∧ (∀ l ∈ lets e.2.2, okLet l = true) ∧ size e.2.2 = 1 + e.2.2.length + ((lets e.2.2).filter isD).length ∧ 1 ≤ e.1 ∧ e.1 ≤ 37 ∧ size e.2.2 ≤ 6 := by
  unfold okEn at h
  simp only [Bool.and_eq_true, decide_eq_true_eq, List.all_eq_true] at h
  obtain ⟨⟨⟨⟨⟨⟨h1, h2⟩, h3⟩, h4⟩, h5⟩, h6⟩, h7⟩ := h
  exact ⟨h1, h2, h3, h4, h5, h6, h7⟩
theorem okLet_of {z : Str} (h : okLet z = true) : (lim z).isSome = true ∧ size z = if isD z then 3 else 2 := by
  unfold okLet at h
  obtain ⟨h1, h2⟩ := Bool.and_eq_true_iff.mp h
  exact ⟨h1, of_decide_eq_true h2⟩
theorem size_wds {e : En} (h : okEn e = true) : size e.2.2 = 1 + wds (lets e.2.2) := by
  obtain ⟨_, _, _, h4, _⟩ := okEn_of h
  rw [h4, wds_filter, lets_len]
  omega
theorem small {n : Nat} (h : n ≤ 1000) : n ≤ sizeLine := Nat.le_of_lt (small1000 (by omega))
theorem wds_le : ∀ l : List Str, l.length ≤ wds l
  | [] => Nat.le_refl _
  | z :: r => by
    have ih := wds_le r
    show r.length + 1 ≤ wd z + wds r
    have : 1 ≤ wd z := by
      unfold wd
      split <;> omega
    omega
section
variable {P : Program} {w : World} {K : PySem.W.Frag} {mg : Str → Option Value} {base : Heap}
/-! ### sense_in -/
def Cells (ns : List Int) : Prop := ∀ x ∈ ns, 0 ≤ x ∧ x ≤ 63
def spSenseIn (K : PySem.W.Frag) : Sp := fun vs H Q _ => ∃ (a : Addr) (n : Nat) (ns : List Int), vs = [.ref a, .int n] ∧ SqE K H a (ns.map V.int) ∧ n < ns.length ∧ ns.length ≤ 1000 ∧ Cells ns ∧ ∀ x H', Kp [] H H' → (∀ S, Da S H' x (sensePy (senseOf ns n))) → Q x H'
theorem ok_sense_in {f f1 f2 f3 aF aL : Addr} {fd fd1 fd2 fd3 : FuncData} {k : Nat} (F : Fun K "sense_in" "sense_in" s_sense_in f fd) (T : Bi mg) (D : Dicts w K aF aL) (gF : mg "FORMS" = some (.ref aF))
    (F1 : Fun K "size_of" "size_of" s_size_of f1 fd1) (b1 : Binds K fd1 ["letters"] []) (g1 : mg "size_of" = some (.ref f1)) (G1 : FnOk P w K mg base CX0 (k + 1) f1 fd1 ["letters"] spSize)
    (F2 : Fun K "part_at" "part_at" s_part_at f2 fd2) (b2 : Binds K fd2 ["cells", "at", "letter"] []) (g2 : mg "part_at" = some (.ref f2)) (G2 : FnOk P w K mg base CX0 (k + 1) f2 fd2 ["cells", "at", "letter"] (spPartAt K))
    (F3 : Fun K "are_parts" "are_parts" s_are_parts f3 fd3) (b3 : Binds K fd3 ["parts", "letters"] []) (g3 : mg "are_parts" = some (.ref f3)) (G3 : FnOk P w K mg base CX0 (k + 3) f3 fd3 ["parts", "letters"] (spAreParts K)) :
    FnOk P w K mg base CX0 (k + 4) f fd ["cells", "at"] (spSenseIn K) := by
  refine F.ok sc_sense_in (fun vs H Q E h => ?_) (fun cdv A outer s H vs Q E hr h => ?_)
  · obtain ⟨_, _, _, rfl, _⟩ := h
    rfl
  · obtain ⟨a, n, ns, rfl, hS, hn, hlen, hC, q⟩ := h
    obtain ⟨kvs, hk, hkF⟩ := D.forms
    refine ⟨_, (pss_cons (ps_if (pt_cmpR op_notInK (pe_ix ix_seq (pv 0) (pv 1) (fun _ _ => rfl)) (pe_glob (v := .ref aF) (by rfl) gF rfl) (by rfl)) (pss_one (ps_ret pe_non)) pss_nil)
      (pss_cons (ps_asg (pe_ix ix_kd (pe_glob (v := .ref aF) (by rfl) gF rfl) (pe_ix ix_seq (pv 0) (pv 1) (fun _ _ => rfl)) (fun _ _ => rfl)) (pg_tup (by rfl) (pgs_cons (pg_name (i := 2) sc_sense_in.nd rfl (.inl rfl)) (pgs_cons (pg_name (i := 3) sc_sense_in.nd rfl (.inl rfl)) pgs_nil))))
      (pss_cons (ps_set (i := 4) sc_sense_in.nd rfl (.inl rfl) (pe_call G1 (hr.mono (by omega)) (by rfl) g1 F1.kp b1 .nil pass0 (pa_cons (pv 3) pa_nil)))
      (pss_cons (ps_if (pt_cmpR op_gt (pe_op op_add (pv 1) (pv 4)) (pe_callB call_len (by rfl) T.m_len (by decide +kernel) (pa_cons (pv 0) pa_nil)) (nomark _)) (pss_one (ps_ret pe_non)) pss_nil)
      (pss_cons (ps_set (i := 5) sc_sense_in.nd rfl (.inl rfl) (pe_lst pa_nil))
      (pss_cons (ps_set (i := 6) sc_sense_in.nd rfl (.inl rfl) (pe_op op_add (pv 1) pe_int))
      (pss_cons (ps_for PassesOwn.never rfl (pi_str (pv 3)) (pg_name (i := 7) sc_sense_in.nd rfl (.inl rfl)) (pss_cons (ps_expr (pe_bm PySem.F.plainAttrs_list PySem.F.slot_list_append PySem.F.type_list_append mt_append (pv 5) (pa_cons (pe_call G2 (hr.mono (by omega)) (by rfl) g2 F2.kp b2 .nil pass0 (pa_cons (pv 0) (pa_cons (pv 6) (pa_cons (pv 7) pa_nil)))) pa_nil)))
        (pss_one (ps_aug (i := 6) sc_sense_in.nd rfl (.inl rfl) (pe_op op_sub (pe_call G1 (hr.mono (by omega)) (by rfl) g1 F1.kp b1 .nil pass0 (pa_cons (pv 7) pa_nil)) pe_int) ip_add))))
      (pss_cons (ps_if (pt_not (pt_val (pe_call G3 (hr.mono (by omega)) (by rfl) g3 F3.kp b3 .nil pass0 (pa_cons (pv 5) (pa_cons (pv 3) pa_nil))))) (pss_one (ps_ret pe_non)) pss_nil)
      (pss_one (ps_ret (pe_tup (pa_cons (pe_tup (pa_cons (pv 2) (StX.pa_star (pv 5) pa_nil))) (pa_cons (pv 4) pa_nil))))))))))))), ?_⟩
    have gn : ns[n]? = some ns[n] := List.getElem?_eq_getElem hn
    have gD : ns.getD n 0 = ns[n] := by rw [List.getD_eq_getElem?_getD, gn] <;> rfl
    have gV : (ns.map V.int)[n]? = some (.int ns[n]) := by rw [List.getElem?_map, gn] <;> rfl
    have lenV : (ns.map V.int).length = ns.length := List.length_map _
    refine ⟨.ref a, rfl, .int n, rfl, ixE hS gV ⟨aF, kvs, .inl ns[n], rfl, rfl, hk, _, rfl, ?_⟩⟩
    rcases look_form hkF (c := ns[n]) with ⟨e1, e2⟩ | ⟨en, tF, e1, e2, e3, e4, hT⟩
    · rw [e2]
      refine ite2 (fun _ => ?_) fun y => absurd rfl y
      refine q _ _ .refl fun S => ?_
      unfold senseOf
      rw [gD, e1]
      exact .non
    · have okE := form_ok en e2
      obtain ⟨hl4, hw8, hlet, _, _, _, hs6⟩ := okEn_of okE
      have hsz := size_wds okE
      rw [e4]
      refine ite2 (fun y => Bool.noConfusion y) fun _ => ?_
      -- word, letters = FORMS[cells[at]]
      refine ⟨.ref a, rfl, .int n, rfl, ixE hS gV ⟨aF, kvs, .inl ns[n], .ref tF, rfl, rfl, hk, e4, tF, [.str en.2.1, .str en.2.2], rfl, hT.sq, rfl, _, _, rfl, _, _, rfl, rfl, ?_⟩⟩
      -- many
      refine ⟨.str en.2.2, rfl, en.2.2, rfl, small (by omega), ?_⟩
      refine ⟨.int n, rfl, .int (size en.2.2), rfl, n, size en.2.2, rfl, rfl, .ref a, rfl, .ref a, ns.length, rfl, ?_, _, _, rfl, rfl, _, rfl, ite2 (fun e => ?_) (fun e => ?_)⟩
      · rcases hS with h | h
        · exact .inl ⟨_, h, lenV.symm⟩
        · exact .inr ⟨_, h, lenV.symm⟩
      · have e' := of_decide_eq_true e
        refine q _ _ .refl fun S => ?_
        unfold senseOf
        rw [gD, e1]
        dsimp only
        rw [if_pos e']
        exact .non
      · have e' : ¬ (ns.length : Int) < n + size en.2.2 := fun y => e (decide_eq_true y)
        refine ⟨Nat.zero_le _, fun l nl => ?_⟩
        refine ⟨.int n, rfl, _, _, rfl, rfl, ?_⟩
        -- the loop
        refine ⟨.str en.2.2, rfl, en.2.2, rfl, ?_⟩
        have hcps : en.2.2.cps.size = (lets en.2.2).length := (lets_len en.2.2).symm
        have bound : n + 1 + wds (lets en.2.2) ≤ ns.length := by omega
        refine for_by (n := (lets en.2.2).length) (fun i σ H' => Kp [] H H' ∧ H' l = some (.lst ((decs ns (n + 1) ((lets en.2.2).take i)).map V.int)) ∧
            ∃ y7, σ = [some (.ref a), some (.int n), some (.str en.2.1), some (.str en.2.2), some (.int (size en.2.2)), some (.ref l), some (.int ((n + 1 + wds ((lets en.2.2).take i) : Nat) : Int)), y7])
          ⟨Kp.new nl, upd_same, _, rfl⟩ ?_ ?_
        · rintro i σ H1 hi ⟨k1, hl1, y7, rfl⟩
          refine ⟨by show i < en.2.2.cps.size; omega, ?_⟩
          rintro v H2 ⟨rfl, c, hc, rfl⟩
          have gz : (lets en.2.2)[i]? = some (one c) := by
            show (en.2.2.cps.toList.map one)[i]? = some (one c)
            rw [List.getElem?_map, Array.getElem?_toList, hc] <;> rfl
          have okl := okLet_of (hlet _ (List.mem_of_getElem? gz))
          have tk : (lets en.2.2).take (i + 1) = (lets en.2.2).take i ++ [one c] := by rw [List.take_add_one, gz] <;> rfl
          have wle : wds ((lets en.2.2).take i) + wd (one c) ≤ wds (lets en.2.2) := by
            have z := wds_app ((lets en.2.2).take (i + 1)) ((lets en.2.2).drop (i + 1))
            rw [List.take_append_drop, tk, wds_app] at z
            have z2 : wds [one c] = wd (one c) := Nat.add_zero _
            omega
          have w1 : 1 ≤ wd (one c) := by
            unfold wd
            split <;> omega
          have hj : n + 1 + wds ((lets en.2.2).take i) < ns.length := by omega
          obtain ⟨x, hx⟩ : ∃ x, ns[n + 1 + wds ((lets en.2.2).take i)]? = some x := ⟨_, List.getElem?_eq_getElem hj⟩
          have xC := hC x (List.mem_of_getElem? hx)
          have hlt : (decs ns (n + 1) ((lets en.2.2).take i)).length < sizeLine := by
            rw [decs_len]
            refine small1000 ?_
            have : ((lets en.2.2).take i).length ≤ (lets en.2.2).length := by rw [List.length_take]; exact Nat.min_le_right _ _
            have : (lets en.2.2).length ≤ wds (lets en.2.2) := wds_le _
            omega
          refine ⟨.ref l, rfl, .inl ⟨rfl, _, sqL hl1⟩, .ref a, rfl, .int _, rfl, .str (one c), rfl, a, n + 1 + wds ((lets en.2.2).take i), one c, ns, x, ns.getD (n + 1 + wds ((lets en.2.2).take i) + 1) 0, rfl, hS.kp k1, hx, fun ez => ?_, by omega, by omega,
            l, _, _, rfl, rfl, hl1, by rw [List.length_map]; exact hlt, ?_⟩
          · have w2 : wd (one c) = 2 := by
              unfold wd isD
              rw [decide_eq_true ez] <;> rfl
            rw [List.getD_eq_getElem?_getD, List.getElem?_eq_getElem (show n + 1 + wds ((lets en.2.2).take i) + 1 < ns.length by omega)] <;> rfl
          · refine ⟨.int _, rfl, .str (one c), rfl, one c, rfl, small (by show 1 ≤ 1000; omega), _, _, rfl, rfl, _, _, rfl, rfl, ?_⟩
            refine ⟨k1.put nl, ?_, some (.str (one c)), ?_⟩
            · rw [upd_same, tk, decs_snoc, List.map_append, List.getD_eq_getElem?_getD (i := n + 1 + wds ((lets en.2.2).take i)), hx]
              rfl
            · have e5 : ((n + 1 + wds ((lets en.2.2).take i) : Nat) : Int) + (size (one c) - 1) = ((n + 1 + wds ((lets en.2.2).take (i + 1)) : Nat) : Int) := by
                rw [okl.2, tk, wds_app]
                have z2 : wds [one c] = wd (one c) := Nat.add_zero _
                rw [z2]
                unfold wd
                cases isD (one c) with
                | true =>
                  show _ + ((3 : Int) - 1) = ((n + 1 + (wds _ + 2) : Nat) : Int)
                  omega
                | false =>
                  show _ + ((2 : Int) - 1) = ((n + 1 + (wds _ + 1) : Nat) : Int)
                  omega
              rw [← e5]
              rfl
        · rintro σ H1 ⟨k1, hl1, y7, rfl⟩
          rw [List.take_length] at hl1
          refine ⟨by show en.2.2.cps.size ≤ _; omega, ?_⟩
          -- are_parts
          refine ⟨.ref l, rfl, .str en.2.2, rfl, [], l, _, _, en.2.2, rfl, .inl (sqL hl1), DaL.ints _, fun z hz => (okLet_of (hlet z hz)).1, fun H2 k2 => ⟨_, rfl, ?_⟩⟩
          cases ep : partsOk ((decs ns (n + 1) (lets en.2.2)).map PyData.int) (lets en.2.2) with
          | false =>
            refine ite2 (fun _ => ?_) fun y => absurd rfl y
            refine q _ _ (k1.trans k2) fun S => ?_
            unfold senseOf
            rw [gD, e1]
            dsimp only
            rw [if_neg e', ep]
            exact .non
          | true =>
            refine ite2 (fun y => Bool.noConfusion y) fun _ => ?_
            have hl2 := k2 _ _ hl1 (.inr List.not_mem_nil)
            have hpl : (decs ns (n + 1) (lets en.2.2)).length ≤ 100 := by
              rw [decs_len]
              rw [lets_len]
              omega
            refine ⟨.str en.2.1, rfl, .ref l, rfl, l, _, rfl, .inr (sqL hl2), ?_, fun p1 np1 => ?_⟩
            · refine small ?_
              simp
              omega
            · refine ⟨.int _, rfl, small (by show 2 ≤ 1000; omega), fun p2 np2 => ?_⟩
              refine q _ _ ((k1.trans k2).trans ((Kp.new np1).trans (Kp.new np2))) fun S => ?_
              unfold senseOf
              rw [gD, e1]
              dsimp only
              rw [if_neg e', ep]
              have n12 : p1 ≠ p2 := fun e => by rw [← e, upd_same] at np2; cases np2
              refine .tup upd_same (.cons (.tup (xs := .str en.2.1 :: (decs ns (n + 1) (lets en.2.2)).map V.int) ?_ (.cons (.str _) (DaL.ints _))) (.cons (.int _) .nil))
              rw [upd_ne n12, upd_same]
              simp
end
end K16
set_option Elab.async false
set_option linter.all false
set_option maxRecDepth 100000
set_option maxHeartbeats 4000000
namespace K16
open PySem PySem.Spec PyProof.Rows L2 Kb
def isSeq : PyData → Bool
  | .tuple _ => true
  | .list _ => true
  | _ => false
def dsOf : PyData → List PyData
  | .tuple ds => ds
  | .list ds => ds
  | _ => []
def cellsOk (d : PyData) : Bool := isSeq d && (dsOf d).all (inB 0 63)
theorem kit_seq {K : PySem.W.Frag} (d : PyData) (hd : ∀ l, d ≠ .dict l) : PySem.W.kitAny K (.type (tyD d)) [.type "tuple", .type "list"] = some (isSeq d) := by
  cases d with
  | dict l => exact absurd rfl (hd l)
  | tuple ds => exact kitAny_cons (b := true) (kit_ty (a := "tuple") (by decide +kernel)) (fun z => Bool.noConfusion z) fun _ => rfl
  | list ds => exact kitAny_cons (b := false) (kit_ty (a := "list") (by decide +kernel)) (fun _ => kitAny_cons (b := true) (kit_ty (a := "list") (by decide +kernel)) (fun z => Bool.noConfusion z) fun _ => rfl) fun z => Bool.noConfusion z
  | none => exact kitAny_cons (b := false) (kit_ty (a := "NoneType") (by decide +kernel)) (fun _ => kitAny_cons (b := false) (kit_ty (a := "NoneType") (by decide +kernel)) (fun _ => rfl) fun z => Bool.noConfusion z) fun z => Bool.noConfusion z
  | bool ds => exact kitAny_cons (b := false) (kit_ty (a := "bool") (by decide +kernel)) (fun _ => kitAny_cons (b := false) (kit_ty (a := "bool") (by decide +kernel)) (fun _ => rfl) fun z => Bool.noConfusion z) fun z => Bool.noConfusion z
  | int ds => exact kitAny_cons (b := false) (kit_ty (a := "int") (by decide +kernel)) (fun _ => kitAny_cons (b := false) (kit_ty (a := "int") (by decide +kernel)) (fun _ => rfl) fun z => Bool.noConfusion z) fun z => Bool.noConfusion z
  | str ds => exact kitAny_cons (b := false) (kit_ty (a := "str") (by decide +kernel)) (fun _ => kitAny_cons (b := false) (kit_ty (a := "str") (by decide +kernel)) (fun _ => rfl) fun z => Bool.noConfusion z) fun z => Bool.noConfusion z
theorem find_at {α : Type} {p : α → Bool} {x : α} : ∀ {l : List α} {i : Nat}, (l.take i).all (fun e => !p e) = true → l[i]? = some x → p x = true → l.find? p = some x
  | [], _, _, e, _ => by simp at e
  | y :: r, 0, _, e, h => by
    have e2 : y = x := Option.some.inj e
    subst e2
    rw [List.find?_cons, h]
  | y :: r, i + 1, ha, e, h => by
    rw [List.take_succ_cons, List.all_cons] at ha
    obtain ⟨h1, h2⟩ := Bool.and_eq_true_iff.mp ha
    have h3 : p y = false := by
      cases q : p y with
      | false => rfl
      | true => rw [q] at h1; cases h1
    rw [List.find?_cons, h3]
    exact find_at h2 e h
theorem find_no {α : Type} {p : α → Bool} {l : List α} (h : l.all (fun e => !p e) = true) : l.find? p = none := by
  rw [List.find?_eq_none]
  intro x hx
  have := List.all_eq_true.mp h x hx
  simpa using this
theorem paired_get {α β : Type} {F : α → β → Prop} {y : β} : ∀ {l : List α} {m : List β} {i : Nat}, Paired F l m → m[i]? = some y → ∃ x, l[i]? = some x ∧ F x y
  | _, _, _, .nil, e => by simp at e
  | _ :: _, _ :: _, 0, .cons h _, e => ⟨_, rfl, Option.some.inj e ▸ h⟩
  | _ :: l, _ :: m, i + 1, .cons _ r, e => paired_get (l := l) (m := m) (i := i) r (by simpa using e)
theorem paired_len {α β : Type} {F : α → β → Prop} : ∀ {l : List α} {m : List β}, Paired F l m → l.length = m.length
  | _, _, .nil => rfl
  | _, _, .cons _ r => congrArg (· + 1) (paired_len r)
theorem DaL.cells {S : List Addr} {H : Hp} : ∀ {xs : List V} {ds : List PyData}, DaL S H xs ds → ds.all (inB 0 63) = true → ∃ ns : List Int, xs = ns.map V.int ∧ ds = ns.map PyData.int ∧ Cells ns
  | _, _, .nil, _ => ⟨[], rfl, rfl, fun _ h => nomatch h⟩
  | _, _, .cons h r, e => by
    rw [List.all_cons] at e
    obtain ⟨e1, e2⟩ := Bool.and_eq_true_iff.mp e
    obtain ⟨i, rfl, h1, h2⟩ := inB_int e1
    cases h
    obtain ⟨ns, rfl, rfl, hc⟩ := DaL.cells r e2
    exact ⟨i :: ns, rfl, rfl, fun x hx => by
      rcases List.mem_cons.mp hx with z | z
      · subst z; exact ⟨h1, h2⟩
      · exact hc x z⟩
/-- does the entry fit? -/
def headIs : List PyData → Str → Bool
  | .str x :: _, y => decide (y = x)
  | _, _ => false
def fits (ds : List PyData) (m : PyData) (e : En) : Bool := headIs ds e.2.1 && inB (size e.2.2) (size e.2.2) m && decide ((ds.length : Int) = 1 + e.2.2.length) && partsOk (ds.drop 1) (lets e.2.2)
def codeOf (d m : PyData) : Option En := match d with
  | .tuple ds => formL.find? (fits ds m)
  | _ => none
def intOf : PyData → Int
  | .int i => i
  | _ => 0
def encs (ps : List (PyData × Str)) : List Int := ps.flatMap fun p => encP p.2 (intOf p.1)
def instrOf (ds : List PyData) (e : En) : List Int := e.1 :: encs ((ds.drop 1).zip (lets e.2.2))
section
variable {P : Program} {w : World} {K : PySem.W.Frag} {mg : Str → Option Value} {base : Heap}
/-! ### are_cells -/
def spAreCells (P1 : Addr) : Sp := fun vs H Q _ => ∃ S x d, vs = [x] ∧ Da S H x d ∧ P1 ∈ S ∧ GxR.TabG H P1 ∧ ∀ H', Kp [P1] H H' → GxR.TabG H' P1 → Q (.bl (cellsOk d)) H'
theorem tabG_put {P1 p : Addr} {H : Hp} {o : HO} (h : GxR.TabG H P1) (n : H p = none) : GxR.TabG (upd H p o) P1 := by
  obtain ⟨ps, e, t⟩ := h
  exact ⟨ps, by rw [upd_ne (ne_of_none e n)]; exact e, t⟩
theorem kp_tab {P1 : Addr} {H H' : Hp} (hG : GxR.TabG H P1) (h : GxR.Tabbed P1 H H') : Kp [P1] H H' := fun b o e q => by
  by_cases hb : b = P1
  · subst hb
    rcases q with q | q
    · obtain ⟨ps, e2, _⟩ := hG
      rw [e] at e2
      cases e2
      cases q
    · exact absurd (List.mem_singleton.mpr rfl) q
  · rw [h.2 b hb]
    exact e
theorem ok_are_cells {f f1 c1 P1 : Addr} {fd fd1 : FuncData} {k : Nat} (F : Fun K "are_cells" "are_cells" s_are_cells f fd) (T : Bi mg) (hc : fd.code = .ref c1) (TB1 : GxR.TabB base mg c1 P1)
    (F1 : Fun K "is_cell" "is_cell" s_is_cell f1 fd1) (b1 : Binds K fd1 ["thing"] []) (g1 : mg "is_cell" = some (.ref f1)) (G1 : FnOk P w K mg base CX0 (k + 3) f1 fd1 ["thing"] spCell) :
    FnOk P w K mg base CX0 (k + 7) f fd ["thing"] (spAreCells P1) := by
  refine okC0 F hc sc_are_cells (fun vs H Q E h => ?_) (fun A outer s H vs Q E hr h => ?_)
  · obtain ⟨_, _, _, rfl, _⟩ := h
    rfl
  · obtain ⟨S, x, d, rfl, hx, hP, hG, q⟩ := h
    refine ⟨_, (pss_one (ps_ret (pe_and (pe_callB call_isiT (by rfl) T.m_isinstance (by decide +kernel) (pa_cons (pv 0) (pa_cons (pe_tup (pa_cons (pe_bltn (v := .ty "tuple") (by rfl) T.m_tuple (by decide +kernel) rfl) (pa_cons (pe_bltn (v := .ty "list") (by rfl) T.m_list (by decide +kernel) rfl) pa_nil))) pa_nil))) (pe_one (pe_allG (own := ["cell"]) hr (by rfl) T.m_all (by decide +kernel) rfl TB1 rfl (genOk_by (by rfl)) (pi_LT (pv 0)) (fun s H C code fp => pg_name (i := 1) (show (["thing", "cell"] : List Str).Nodup by decide) rfl (.inl rfl)) (fun s H C code fp => pe_call G1 ((hr.in1.in1.deeper _).mono (by omega)) (by rfl) g1 F1.kp b1 .nil pass0 (pa_cons (pv 1) pa_nil))))))), ?_⟩
    refine ⟨x, rfl, small (by show 2 ≤ 1000; omega), fun t nt => ?_⟩
    have k1 : Kp S H (upd H t (.tup [.ty "tuple", .ty "list"])) := Kp.new nt
    have k1' : Kp [P1] H (upd H t (.tup [.ty "tuple", .ty "list"])) := Kp.new nt
    have hx1 := hx.kp k1
    refine ⟨x, t, _, _, _, _, rfl, upd_same, .cons (.ty _) (.cons (.ty _) .nil), hx1.ty, kit_seq d hx.nd, _, rfl, ?_⟩
    cases hs : isSeq d with
    | false =>
      have e : cellsOk d = false := by unfold cellsOk; rw [hs] <;> rfl
      rw [e] at q
      exact q _ k1' (tabG_put hG nt)
    | true =>
      have e : cellsOk d = (dsOf d).all (inB 0 63) := by unfold cellsOk; rw [hs] <;> rfl
      rw [e] at q
      refine ite2 (fun _ => ?_) fun y => absurd rfl y
      have fin : ∀ (J : It) (xs : List V) (ds : List PyData) (H2 : Hp), Kp [P1] H H2 → GxR.TabG H2 P1 → DaL S H2 xs ds → ds = dsOf d → (∀ i, i < xs.length → J.go i H2) → (∀ i v H', J.yld i H2 v H' → H' = H2 ∧ (i < xs.length → xs[i]? = some v)) → J.stop xs.length H2 →
          ∃ W : Nat → Nat → Hp → Prop, (∃ m, W 0 m H2) ∧ Turns J (gName 1) (tCall spCell [] E0 (tCons (tVar 1) tNil)) ([some x] ++ List.replicate 1 none) 1 false (fun H => Q (.bl true) H) (fun H => Q (.bl false) H) W := by
        intro J xs ds H2 k2 g2 hD ed hgo hyl hst
        refine ⟨fun i m H3 => m = xs.length - i ∧ i ≤ xs.length ∧ H3 = H2 ∧ (ds.take i).all (inB 0 63) = true, ⟨xs.length, by omega, by omega, rfl, rfl⟩, ?_⟩
        rintro i m H3 ⟨rfl, hi, rfl, hall⟩
        by_cases hlt : i < xs.length
        · refine .inr ⟨hgo i hlt, fun v H' hy => ?_⟩
          obtain ⟨rfl, hv⟩ := hyl i v H' hy
          obtain ⟨v', dv, gx, gd, dx⟩ := hD.get i hlt
          cases (hv hlt).symm.trans gx
          refine ⟨rfl, v, rfl, S, v, dv, rfl, dx, _, rfl, fun e0 => ?_, fun e1 => ?_⟩
          · have := q _ k2 g2
            rw [← ed, all_false_at gd e0] at this
            exact this
          · refine ⟨xs.length - (i + 1), by omega, rfl, by omega, rfl, ?_⟩
            rw [all_take_succ hall gd]
            exact e1
        · have e : i = xs.length := by omega
          subst e
          refine .inl ⟨hst, ?_⟩
          rw [hD.len, List.take_length] at hall
          have := q _ k2 g2
          rw [← ed, hall] at this
          exact this
      cases hx with
      | @lst a xs ds ea na hD =>
        have e1 : upd H t (.tup [.ty "tuple", .ty "list"]) a = some (.lst xs) := k1 a _ ea (.inr na)
        refine ⟨.ref a, rfl, a, rfl, .inl ⟨⟨xs, sqL e1⟩, tabG_put hG nt, fun H2 hT => ?_⟩⟩
        have k2 : Kp [P1] (upd H t (.tup [.ty "tuple", .ty "list"])) H2 := kp_tab (tabG_put hG nt) hT
        have k2S : Kp S (upd H t (.tup [.ty "tuple", .ty "list"])) H2 := k2.mono fun b hb => List.mem_singleton.mp hb ▸ hP
        have e2 : H2 a = some (.lst xs) := k2S a _ e1 (.inr na)
        refine fin _ xs ds H2 (k1'.trans k2) hT.1 ((hD.kp k1).kp k2S) rfl (fun i hi => ⟨xs, _, sqL e2, List.getElem?_eq_getElem hi⟩) (fun i v H' hy => ⟨hy.1, fun _ => hy.2 xs (sqL e2)⟩) ⟨xs, sqL e2, Nat.le_refl _⟩
      | @tup a xs ds ea hD =>
        have e1 : upd H t (.tup [.ty "tuple", .ty "list"]) a = some (.tup xs) := k1.tup ea
        refine ⟨.ref a, rfl, a, rfl, .inr ⟨⟨xs, sqT e1⟩, tabG_put hG nt, fun H2 hT => ?_⟩⟩
        have k2 : Kp [P1] (upd H t (.tup [.ty "tuple", .ty "list"])) H2 := kp_tab (tabG_put hG nt) hT
        have k2S : Kp S (upd H t (.tup [.ty "tuple", .ty "list"])) H2 := k2.mono fun b hb => List.mem_singleton.mp hb ▸ hP
        have e2 : H2 a = some (.tup xs) := k2S.tup e1
        refine fin _ xs ds H2 (k1'.trans k2) hT.1 ((hD.kp k1).kp k2S) rfl (fun i hi => ⟨xs, _, sqT e2, List.getElem?_eq_getElem hi⟩) (fun i v H' hy => ⟨hy.1, fun _ => hy.2 xs (sqT e2)⟩) ⟨xs, sqT e2, Nat.le_refl _⟩
      | _ => cases hs
end
end K16
set_option Elab.async false
set_option linter.all false
set_option maxRecDepth 100000
set_option maxHeartbeats 4000000
namespace K16
open PySem PySem.Spec PyProof.Rows L2 Kb
/-- an error class of the program, directly made -/
structure Ec (K : PySem.W.Frag) (mg : Str → Option Value) (x : Str) (C : Addr) : Prop where
  exc : PySem.W.excIn K C He.veBase "ValueError.__new__" = true
  g : mg x = some (.ref C)
  kp : PySem.W.keepIn K (.ref C) = true
  sub : PySem.W.subIn K (.ref C) (.type "BaseException") = some true
  ty : PySem.W.typeIn K (.ref C) = some (.type "type")
theorem len_of {K : PySem.W.Frag} {S : List Addr} {H : Hp} {x : V} {d : PyData} (h : Da S H x d) (hs : isSeq d = true) : LenV K x H (dsOf d).length := by
  cases h with
  | lst e n hD => exact .inl ⟨_, sqL e, hD.len.symm⟩
  | tup e hD => exact .inr ⟨_, sqT e, hD.len.symm⟩
  | _ => cases hs
theorem Da.cells {K : PySem.W.Frag} {S : List Addr} {H : Hp} {x : V} {d : PyData} (h : Da S H x d) (hc : cellsOk d = true) : ∃ a ns, x = .ref a ∧ dsOf d = ns.map PyData.int ∧ Cells ns ∧ ∀ H', Kp S H H' → SqE K H' a (ns.map V.int) := by
  unfold cellsOk at hc
  obtain ⟨h1, h2⟩ := Bool.and_eq_true_iff.mp hc
  cases h with
  | @lst a xs ds e n hD =>
    obtain ⟨ns, rfl, e2, hC⟩ := hD.cells h2
    exact ⟨a, ns, rfl, e2, hC, fun H' k => .inl (sqL (k a _ e (.inr n)))⟩
  | @tup a xs ds e hD =>
    obtain ⟨ns, rfl, e2, hC⟩ := hD.cells h2
    exact ⟨a, ns, rfl, e2, hC, fun H' k => .inr (sqT (k.tup e))⟩
  | _ => cases h1
section
variable {P : Program} {w : World} {K : PySem.W.Frag} {mg : Str → Option Value} {base : Heap}
/-! ### sense_at -/
def nOf : PyData → Nat
  | .int i => i.toNat
  | _ => 0
def isOf (d : PyData) : List Int := (dsOf d).map intOf
def spSenseAt (P1 CC CI : Addr) : Sp := fun vs H Q E => ∃ S x d y m, vs = [x, y] ∧ Da S H x d ∧ Da S H y m ∧ P1 ∈ S ∧ GxR.TabG H P1 ∧ (dsOf d).length ≤ 1000 ∧
  (cellsOk d = false → ∀ H', Kp [P1] H H' → GxR.TabG H' P1 → E (.ref CC) none H') ∧
  (cellsOk d = true → inB 0 ((dsOf d).length - 1) m = false → ∀ H', Kp [P1] H H' → GxR.TabG H' P1 → E (.ref CI) none H') ∧
  (cellsOk d = true → inB 0 ((dsOf d).length - 1) m = true → ∀ x' H', Kp [P1] H H' → GxR.TabG H' P1 → (∀ S', Da S' H' x' (sensePy (senseOf (isOf d) (nOf m)))) → Q x' H')
theorem kp_nil {S : List Addr} {H H' : Hp} (k : Kp [] H H') : Kp S H H' := k.of
theorem tabG_kp {P1 : Addr} {H H' : Hp} (h : GxR.TabG H P1) (k : Kp [] H H') : GxR.TabG H' P1 := by
  obtain ⟨ps, e, t⟩ := h
  exact ⟨ps, k.same _ _ e, t⟩
end
end K16
set_option Elab.async false
set_option linter.all false
set_option maxRecDepth 100000
set_option maxHeartbeats 4000000
namespace K16
open PySem PySem.Spec PyProof.Rows L2 Kb
theorem cut_one (xs : List V) : cutV xs (some 1) none = xs.drop 1 := by
  unfold cutV
  rw [show HT.sIx xs.length 0 (some 1) = min 1 xs.length from HT.sIx_nat xs.length 0 1, HT.sIx_none]
  cases xs with
  | nil => rfl
  | cons x r =>
    rw [show min 1 (x :: r).length = 1 by
      rw [List.length_cons]
      omega]
    show (List.take ((x :: r).length - 1) r) = r
    rw [List.length_cons, Nat.add_sub_cancel]
    exact List.take_length
theorem not_full {xs : List V} (h : xs ≠ []) : ¬ (HT.sIx xs.length 0 (some 1) = 0 ∧ HT.sIx xs.length xs.length none = xs.length) := fun y => by
  have e : HT.sIx xs.length 0 (some 1) = min 1 xs.length := HT.sIx_nat xs.length 0 1
  rw [e] at y
  have : xs.length ≠ 0 := fun z => h (List.length_eq_zero_iff.mp z)
  omega
section
variable {P : Program} {w : World} {K : PySem.W.Frag} {mg : Str → Option Value} {base : Heap}
/-! ### code_of -/
def codeV : Option En → V
  | none => .non
  | some e => .int e.1
def spCodeOf : Sp := fun vs H Q _ => ∃ S x d y m, vs = [x, y] ∧ Da S H x d ∧ Da S H y m ∧ (dsOf d).length ≤ 1000 ∧ ∀ H', Kp [] H H' → Q (codeV (codeOf d m)) H'
end
end K16
set_option Elab.async false
set_option linter.all false
set_option maxRecDepth 100000
set_option maxHeartbeats 4000000
namespace K16
open PySem PySem.Spec PyProof.Rows L2 Kb
theorem encP_len (z : Str) (p : Int) : (encP z p).length ≤ 2 := by
  unfold encP
  split
  · exact Nat.le_refl 2
  · exact Nat.le_succ 1
theorem encs_len : ∀ ps : List (PyData × Str), (encs ps).length ≤ 2 * ps.length
  | [] => Nat.le_refl 0
  | p :: r => by
    have ih := encs_len r
    have h := encP_len p.2 (intOf p.1)
    show (encP p.2 (intOf p.1) ++ encs r).length ≤ 2 * (r.length + 1)
    rw [List.length_append]
    omega
theorem encs_snoc (l : List (PyData × Str)) (p : PyData × Str) : encs (l ++ [p]) = encs l ++ encP p.2 (intOf p.1) := by
  unfold encs
  rw [List.flatMap_append]
  simp
theorem fits_of {ds : List PyData} {m : PyData} {e : En} (h : fits ds m e = true) : headIs ds e.2.1 = true ∧ inB (size e.2.2) (size e.2.2) m = true ∧ (ds.length : Int) = 1 + e.2.2.length ∧ partsOk (ds.drop 1) (lets e.2.2) = true := by
  unfold fits at h
  obtain ⟨h, h4⟩ := Bool.and_eq_true_iff.mp h
  obtain ⟨h, h3⟩ := Bool.and_eq_true_iff.mp h
  obtain ⟨h1, h2⟩ := Bool.and_eq_true_iff.mp h
  exact ⟨h1, h2, of_decide_eq_true h3, h4⟩
theorem codeOf_of {d m : PyData} {e : En} (h : codeOf d m = some e) : ∃ ds, d = .tuple ds ∧ e ∈ formL ∧ fits ds m e = true := by
  cases d with
  | tuple ds => exact ⟨ds, rfl, List.mem_of_find?_eq_some h, List.find?_some h⟩
  | _ => cases h
theorem find_code : ∀ {l : List En} {e : En}, (l.map (·.1)).Nodup → e ∈ l → l.find? (fun x => decide (x.1 = e.1)) = some e
  | y :: r, e, hn, h => by
    rw [List.map_cons, List.nodup_cons] at hn
    rw [List.find?_cons]
    by_cases hy : y.1 = e.1
    · rw [decide_eq_true hy]
      rcases List.mem_cons.mp h with z | z
      · rw [z]
      · exact absurd (List.mem_map.mpr ⟨e, z, hy.symm⟩) hn.1
    · rw [decide_eq_false hy]
      rcases List.mem_cons.mp h with z | z
      · exact absurd (congrArg _ z.symm) hy
      · exact find_code hn.2 z
section
variable {P : Program} {w : World} {K : PySem.W.Frag} {mg : Str → Option Value} {base : Heap}
/-! ### instruction -/
def spInstr (CS : Addr) : Sp := fun vs H Q E => ∃ S x d y m, vs = [x, y] ∧ Da S H x d ∧ Da S H y m ∧ (dsOf d).length ≤ 1000 ∧
  (codeOf d m = none → ∀ H', Kp [] H H' → E (.ref CS) none H') ∧
  (∀ e, codeOf d m = some e → ∀ H' p, Kp [] H H' → H' p = some (.tup ((instrOf (dsOf d) e).map V.int)) → Q (.ref p) H')
end
end K16
set_option Elab.async false
set_option linter.all false
set_option maxRecDepth 100000
set_option maxHeartbeats 4000000
namespace K16
open PySem PySem.Spec PyProof.Rows L2 Kb
/-! ### the draw -/
def drawKV (w c : Addr) (r t : Int) : List (Key × V) := [(.inr "wide", .ref w), (.inr "cells", .ref c), (.inr "rest", .int r), (.inr "turn", .int t)]
theorem dr_w (w c : Addr) (r t : Int) : valV (drawKV w c r t) (.inr "wide") = some (.ref w) := rfl
theorem dr_c (w c : Addr) (r t : Int) : valV (drawKV w c r t) (.inr "cells") = some (.ref c) := rfl
theorem dr_r (w c : Addr) (r t : Int) : valV (drawKV w c r t) (.inr "rest") = some (.int r) := rfl
theorem dr_t (w c : Addr) (r t : Int) : valV (drawKV w c r t) (.inr "turn") = some (.int t) := rfl
theorem dp_r (w c : Addr) (r t r' : Int) : putK (drawKV w c r t) (.inr "rest") (.int r') = drawKV w c r' t := rfl
theorem dp_t (w c : Addr) (r t t' : Int) : putK (drawKV w c r t) (.inr "turn") (.int t') = drawKV w c r t' := rfl
section
variable {H : Hp} {d w c : Addr} {r t : Int}
theorem get_w (e : H d = some (.dK (drawKV w c r t))) : DGet H d (.str "wide") (some (.ref w)) := dr_w w c r t ▸ DGet.k (k := .inr "wide") e
theorem get_c (e : H d = some (.dK (drawKV w c r t))) : DGet H d (.str "cells") (some (.ref c)) := dr_c w c r t ▸ DGet.k (k := .inr "cells") e
theorem get_r (e : H d = some (.dK (drawKV w c r t))) : DGet H d (.str "rest") (some (.int r)) := dr_r w c r t ▸ DGet.k (k := .inr "rest") e
theorem get_t (e : H d = some (.dK (drawKV w c r t))) : DGet H d (.str "turn") (some (.int t)) := dr_t w c r t ▸ DGet.k (k := .inr "turn") e
theorem four_line : (drawKV w c r t).length < sizeLine := by
  show 4 < sizeLine
  rw [sizeLine_eq]
  decide
theorem put_r {r' : Int} (e : H d = some (.dK (drawKV w c r t))) : DPut H d (.str "rest") (.int r') (upd H d (.dK (drawKV w c r' t))) := dp_r w c r t r' ▸ DPut.k (k := .inr "rest") (v := .int r') e four_line
theorem put_t {t' : Int} (e : H d = some (.dK (drawKV w c r t))) : DPut H d (.str "turn") (.int t') (upd H d (.dK (drawKV w c r t'))) := dp_t w c r t t' ▸ DPut.k (k := .inr "turn") (v := .int t') e four_line
end
/-- the draw stands; its turn is at most N -/
structure Dr (H : Hp) (d w c : Addr) (N : Nat) : Prop where
  at_ : ∃ r t, H d = some (.dK (drawKV w c r t)) ∧ 0 ≤ t ∧ t ≤ N
  wide : ∃ ws : List Int, H w = some (.lst (ws.map V.int)) ∧ ws.length ≤ 1000
  cells : ∃ cs : List Int, H c = some (.lst (cs.map V.int)) ∧ cs.length ≤ 1000
theorem Dr.kp {H H' : Hp} {d w c : Addr} {N : Nat} {S : List Addr} (D : Dr H d w c N) (k : Kp S H H') (hd : d ∉ S) (hw : w ∉ S) (hc : c ∉ S) : Dr H' d w c N := by
  obtain ⟨⟨r, t, e, h1, h2⟩, ⟨ws, ew, lw⟩, ⟨cs, ec, lc⟩⟩ := D
  exact ⟨⟨r, t, k _ _ e (.inr hd), h1, h2⟩, ⟨ws, k _ _ ew (.inr hw), lw⟩, ⟨cs, k _ _ ec (.inr hc), lc⟩⟩
theorem Dr.kp0 {H H' : Hp} {d w c : Addr} {N : Nat} (D : Dr H d w c N) (k : Kp [] H H') : Dr H' d w c N := D.kp k List.not_mem_nil List.not_mem_nil List.not_mem_nil
theorem Dr.ne {H : Hp} {d w c : Addr} {N : Nat} (D : Dr H d w c N) : d ≠ w ∧ d ≠ c := by
  obtain ⟨⟨r, t, e, h1, h2⟩, ⟨ws, ew, lw⟩, ⟨cs, ec, lc⟩⟩ := D
  exact ⟨(fun z => by rw [z, ew] at e; cases e), (fun z => by rw [z, ec] at e; cases e)⟩
theorem Dr.mono {H : Hp} {d w c : Addr} {N M : Nat} (D : Dr H d w c N) (h : N ≤ M) : Dr H d w c M :=
  let ⟨⟨r, t, e, h1, h2⟩, b, c⟩ := D; ⟨⟨r, t, e, h1, by omega⟩, b, c⟩
/-- what stands at S may change: a list's, a dict's place -/
theorem Kp.set {S : List Addr} {H0 H : Hp} {p : Addr} {o : HO} (a : Kp S H0 H) (hp : p ∈ S) (hn : ∀ u, H p = some u → isTup u = false) : Kp S H0 (upd H p o) := fun b x e h => by
  have q := a b x e h
  by_cases hb : b = p
  · subst hb
    rcases h with h | h
    · rw [hn x q] at h
      cases h
    · exact absurd hp h
  · rw [upd_ne hb]
    exact q
theorem shaped_ints (ns : List Int) : SeqAt.shaped (.list (ns.map PyData.int)) = true := by
  have h1 : ∀ ns : List Int, PyData.canLayAll0 (ns.map PyData.int) = true ∧ PyData.depthAll (ns.map PyData.int) = 0 := by
    intro ns
    induction ns with
    | nil => exact ⟨rfl, rfl⟩
    | cons i r ih =>
      refine ⟨?_, ?_⟩
      · show (true && PyData.canLayAll0 (r.map PyData.int)) = true
        rw [ih.1] <;> rfl
      · show max 0 (PyData.depthAll (r.map PyData.int)) = 0
        rw [ih.2] <;> rfl
  unfold SeqAt.shaped
  have e1 : (PyData.list (ns.map PyData.int)).canLay0 = true := (h1 ns).1
  have e2 : (PyData.list (ns.map PyData.int)).depth = 1 := by
    show PyData.depthAll _ + 1 = 1
    rw [(h1 ns).2]
  rw [e1, e2] <;> rfl
theorem hu1 {k : Nat} {A : Around} (r : Room k A) : A.units + 1 < cLine := by have := r.un; omega
section
variable {P : Program} {w : World} {K : PySem.W.Frag} {mg : Str → Option Value} {base : Heap}
/-! ### _law_mixed -/
def spMixed : Sp := fun vs H Q _ => ∃ d w c N, vs = [.ref d] ∧ Dr H d w c N ∧ N ≤ 1000000000 ∧ ∀ H' i, Kp [d] H H' → Dr H' d w c (N + 1) → Q (.int i) H'
theorem ok_mixed {f : Addr} {fd : FuncData} {k : Nat} (F : Fun K "_law_mixed" "_law_mixed" s_l_mixed f fd) (T : Bi mg) : FnOk P w K mg base CX0 (k + 1) f fd ["draw"] spMixed := by
  refine F.ok sc_l_mixed (fun vs H Q E h => ?_) (fun cdv A outer s H vs Q E hr h => ?_)
  · obtain ⟨_, _, _, _, rfl, _⟩ := h
    rfl
  · obtain ⟨d, w, c, N, rfl, hD, hN, q⟩ := h
    refine ⟨_, (pss_cons (ps_par (i := 1) (j := 2) (by rfl) sc_l_mixed.nd rfl rfl (by decide) rfl rfl (pa_cons (pe_op op_add (pe_dget (hu1 hr) (pv 0) pe_str (fun _ _ => rfl)) pe_int) (pa_cons pe_int pa_nil)) (by rfl))
      (pss_cons (ps_dput (hu1 hr) (pv 0) pe_str (pv 1) rfl)
      (pss_cons (ps_for PassesOwn.never rfl (pi_list (pe_lst (pa_cons pe_int (pa_cons pe_int (pa_cons pe_int (pa_cons pe_int pa_nil)))))) (pg_name (i := 3) sc_l_mixed.nd rfl (.inl rfl)) (pss_cons (ps_set (i := 4) sc_l_mixed.nd rfl (.inl rfl) (pe_op op_add (pe_op op_mul pe_int (pv 1)) (pe_op op_fdiv (pv 3) pe_int)))
        (pss_cons (ps_for PassesOwn.never rfl (pi_list (pe_dget (hu1 hr) (pv 0) pe_str (fun _ _ => rfl))) (pg_name (i := 5) sc_l_mixed.nd rfl (.inl rfl)) (pss_one (ps_set (i := 4) sc_l_mixed.nd rfl (.inl rfl) (pe_op op_mod (pe_callTy call_int1 (by rfl) T.m_int (by decide +kernel) (pa_cons (pe_op op_add (pe_op op_add (pe_op op_mul (pv 4) pe_int) (pv 5)) (pv 1)) pa_nil)) (pv 3)))))
        (pss_one (ps_set (i := 2) sc_l_mixed.nd rfl (.inl rfl) (pe_op op_add (pe_op op_mul (pv 2) pe_int) (pe_op op_mod (pe_callTy call_int1 (by rfl) T.m_int (by decide +kernel) (pa_cons (pe_op op_pow (pv 4) pe_int) pa_nil)) (pv 3))))))))
      (pss_one (ps_ret (pv 2)))))), ?_⟩
    obtain ⟨⟨r, t, ed, h1, h2⟩, ⟨ws, ew, lw⟩, ⟨cs, ec, lc⟩⟩ := id hD
    obtain ⟨ndw, ndc⟩ := hD.ne
    refine ⟨.ref d, rfl, d, .int t, rfl, get_t ed, t, 1, rfl, rfl, .int (t + 1), .int 0, rfl, ?_⟩
    refine ⟨.int (t + 1), rfl, .ref d, rfl, d, _, rfl, put_t ed, ?_⟩
    have k1 : Kp [d] H (upd H d (.dK (drawKV w c r (t + 1)))) := Kp.refl.set (List.mem_singleton.mpr rfl) fun u e => by rw [ed] at e; cases e; rfl
    have hD1 : Dr (upd H d (.dK (drawKV w c r (t + 1)))) d w c (N + 1) := ⟨⟨r, t + 1, upd_same, by omega, by omega⟩, ⟨ws, by rw [upd_ne (Ne.symm ndw)]; exact ew, lw⟩, ⟨cs, by rw [upd_ne (Ne.symm ndc)]; exact ec, lc⟩⟩
    refine ⟨small (by show 4 ≤ 1000; omega), fun l nl => ⟨l, rfl, ⟨_, sqL upd_same⟩, ?_⟩⟩
    have hD2 := hD1.kp0 (Kp.new (o := .lst [.int 2147483647, .int 2147483629, .int 2147483587, .int 2147483579]) nl)
    have k2 : Kp [d] H (upd (upd H d (.dK (drawKV w c r (t + 1)))) l (.lst [.int 2147483647, .int 2147483629, .int 2147483587, .int 2147483579])) := k1.trans (Kp.new nl)
    obtain ⟨HH, eHH⟩ : ∃ HH, HH = upd (upd H d (.dK (drawKV w c r (t + 1)))) l (.lst [.int 2147483647, .int 2147483629, .int 2147483587, .int 2147483579]) := ⟨_, rfl⟩
    have el : HH l = some (.lst [.int 2147483647, .int 2147483629, .int 2147483587, .int 2147483579]) := by rw [eHH, upd_same]
    rw [← eHH] at hD2 k2 ⊢
    have ed2 : HH d = some (.dK (drawKV w c r (t + 1))) := by
      rw [eHH, upd_ne (ne_of_none upd_same nl), upd_same]
    obtain ⟨_, _, ⟨cs', ec2, lc2⟩⟩ := id hD2
    refine for_list (K := K) (a := l) (xs := [.int 2147483647, .int 2147483629, .int 2147483587, .int 2147483579]) (fun i σ H' => H' = HH ∧ ∃ fo y3 y4 y5, σ = [some (.ref d), some (.int (t + 1)), some (.int fo), y3, y4, y5])
      ⟨rfl, _, _, _, _, rfl⟩ (fun i σ H' _ ⟨e, _⟩ => by rw [e]; exact sqL el) ?_ ?_
    · rintro i x σ H' hi ⟨rfl, fo, y3, y4, y5, rfl⟩
      obtain ⟨p, rfl, hp, hp2⟩ : ∃ p : Int, x = .int p ∧ 1000000 < p ∧ p < 2147483648 := by
        have hm := List.mem_of_getElem? hi
        simp only [List.mem_cons, List.not_mem_nil, or_false] at hm
        rcases hm with e | e | e | e <;> exact ⟨_, e, by decide, by decide⟩
      refine ⟨.int (t + 1), rfl, 48271, t + 1, rfl, rfl, .inl (by decide), .int p, rfl, p, 37, rfl, rfl, ⟨by decide, by decide⟩, _, _, rfl, rfl, ?_⟩
      refine ⟨.ref d, rfl, d, .ref c, rfl, get_c ed2, c, rfl, ⟨_, sqL ec2⟩, ?_⟩
      refine for_list (K := K) (a := c) (xs := cs'.map V.int) (fun j σ H'' => H'' = H' ∧ ∃ b y5, -1000000000000000 ≤ b ∧ b ≤ 1000000000000000 ∧ σ = [some (.ref d), some (.int (t + 1)), some (.int fo), some (.int p), some (.int b), y5])
        ⟨rfl, _, _, by omega, by omega, rfl⟩ (fun i σ H'' _ ⟨e, _⟩ => by rw [e]; exact sqL ec2) ?_ ?_
      · rintro j x σ H'' hj ⟨rfl, b, y5, _, _, rfl⟩
        obtain ⟨g, rfl⟩ : ∃ g : Int, x = .int g := by
          obtain ⟨g, _, e⟩ := List.mem_map.mp (List.mem_of_getElem? hj)
          exact ⟨g, e.symm⟩
        refine ⟨.int b, rfl, b, 69621, rfl, rfl, .inr (by decide), .int g, rfl, _, _, rfl, rfl, .int (t + 1), rfl, _, _, rfl, rfl, .inl ⟨_, rfl, .int p, rfl, _, p, rfl, rfl, by show (0 : Int) < p; omega, rfl, _, _, ?_, ?_, rfl⟩⟩
        · have := Int.emod_nonneg (b * 69621 + g + (t + 1)) (show p ≠ 0 by omega)
          omega
        · have := Int.emod_lt_of_pos (b * 69621 + g + (t + 1)) (show 0 < p by omega)
          omega
      · rintro σ H'' ⟨rfl, b, y5, hb1, hb2, rfl⟩
        refine ⟨.int fo, rfl, fo, 2147483647, rfl, rfl, .inr (by decide), .int b, rfl, b, 5, rfl, rfl, ⟨by decide, by decide, by omega⟩, .inl ⟨_, rfl, .int p, rfl, _, p, rfl, rfl, by show (0 : Int) < p; omega, _, _, rfl, rfl, rfl, _, _, _, _, rfl⟩⟩
    · rintro σ H' ⟨rfl, fo, y3, y4, y5, rfl⟩
      exact ⟨.int fo, rfl, q _ fo k2 hD2⟩
/-! ### _law_take -/
def spTake : Sp := fun vs H Q _ => ∃ d w c N many, vs = [.ref d, .int many] ∧ Dr H d w c N ∧ N ≤ 1000000000 ∧ 0 < many ∧ many < 1073741824 ∧ ∀ H' r, Kp [d, w] H H' → Dr H' d w c (N + 1) → 0 ≤ r → r < many → Q (.int r) H'
theorem eqv_nil (ws : List Int) : PyData.eqv (.list (ws.map PyData.int)) (.list []) = ws.isEmpty := by
  cases ws <;> rfl
theorem ok_take {f f1 : Addr} {fd fd1 : FuncData} {k : Nat} (F : Fun K "_law_take" "_law_take" s_l_take f fd) (T : Bi mg) (F1 : Fun K "_law_mixed" "_law_mixed" s_l_mixed f1 fd1) (b1 : Binds K fd1 ["draw"] []) (g1 : mg "_law_mixed" = some (.ref f1)) (G1 : FnOk P w K mg base CX0 (k + 1) f1 fd1 ["draw"] spMixed) :
    FnOk P w K mg base CX0 (k + 2) f fd ["draw", "many"] spTake := by
  refine F.ok sc_l_take (fun vs H Q E h => ?_) (fun cdv A outer s H vs Q E hr h => ?_)
  · obtain ⟨_, _, _, _, _, rfl, _⟩ := h
    rfl
  · obtain ⟨d, w, c, N, many, rfl, hD, hN, hm, hm2, q⟩ := h
    refine ⟨_, (pss_cons (ps_if (pt_cmpR op_eq (pe_dget (hu1 hr) (pv 0) pe_str (fun _ _ => rfl)) pe_int (nomark _)) (pss_one (ps_dput (hu1 hr) (pv 0) pe_str (pe_ifExp (pt_cmpR (op_neD hr.units) (pe_dget (hu1 hr) (pv 0) pe_str (fun _ _ => rfl)) (pe_lst pa_nil) (nomark _)) (pe_bm PySem.F.plainAttrs_list PySem.F.slot_list_pop PySem.F.type_list_pop mt_popAt (pe_dget (hu1 hr) (pv 0) pe_str (fun _ _ => rfl)) (pa_cons pe_int pa_nil)) (pe_call G1 hr (by rfl) g1 F1.kp b1 .nil pass0 (pa_cons (pv 0) pa_nil))) rfl)) pss_nil)
      (pss_cons (ps_set (i := 2) sc_l_take.nd rfl (.inl rfl) (pe_op op_mod (pe_callTy call_int1 (by rfl) T.m_int (by decide +kernel) (pa_cons (pe_dget (hu1 hr) (pv 0) pe_str (fun _ _ => rfl)) pa_nil)) (pv 1)))
      (pss_cons (ps_dput (hu1 hr) (pv 0) pe_str (pe_op op_fdiv (pe_dget (hu1 hr) (pv 0) pe_str (fun _ _ => rfl)) (pv 1)) rfl)
      (pss_one (ps_ret (pv 2)))))), ?_⟩
    -- behind the if
    have fin : ∀ (H1 : Hp), Kp [d, w] H H1 → Dr H1 d w c (N + 1) → tSeq (tAsg (tOp (rI (fun _ j => 0 < j) fun i j => .int (i % j)) (tCB (fun xs H Q => (∃ i, xs = [.int i] ∧ Q (.int i) H) ∨ ∃ k, xs = [.bl k] ∧ Q (.int (if k then 1 else 0)) H) (tCons (tDGet (tVar 0) (tC (.str "rest"))) tNil)) (tVar 1)) (gName 2))
        (tSeq (sDPut (tVar 0) (tC (.str "rest")) (tOp (rI CDiv fun i j => .int (i / j)) (tDGet (tVar 0) (tC (.str "rest"))) (tVar 1))) (tRet (tVar 2))) { nx := fun _ H' => Q .non H', rt := Q } [some (.ref d), some (.int many), none] H1 := by
      intro H1 k1 hD1
      obtain ⟨⟨r, t, ed, h1, h2⟩, hw, hc⟩ := id hD1
      refine ⟨.ref d, rfl, d, .int r, rfl, get_r ed, .inl ⟨r, rfl, .int many, rfl, r, many, rfl, rfl, hm, ?_⟩⟩
      refine ⟨.ref d, rfl, d, .int r, rfl, get_r ed, .int many, rfl, r, many, rfl, rfl, ⟨hm, hm2⟩, .ref d, rfl, d, _, rfl, put_r ed, ?_⟩
      obtain ⟨ndw, ndc⟩ := hD1.ne
      obtain ⟨ws, ew, lw⟩ := hw
      obtain ⟨cs, ec, lc⟩ := hc
      refine ⟨.int (r % many), rfl, q _ _ (k1.set (by simp) fun u e => by rw [ed] at e; cases e; rfl) ⟨⟨_, t, upd_same, h1, h2⟩, ⟨ws, by rw [upd_ne (Ne.symm ndw)]; exact ew, lw⟩, ⟨cs, by rw [upd_ne (Ne.symm ndc)]; exact ec, lc⟩⟩ (Int.emod_nonneg _ (by omega)) (Int.emod_lt_of_pos _ hm)⟩
    obtain ⟨⟨r, t, ed, h1, h2⟩, ⟨ws, ew, lw⟩, ⟨cs, ec, lc⟩⟩ := id hD
    obtain ⟨ndw, ndc⟩ := hD.ne
    refine ⟨.ref d, rfl, d, .int r, rfl, get_r ed, rfl, _, rfl, ite2 (fun _ => ?_) (fun _ => ?_)⟩
    · refine ⟨.ref d, rfl, d, .ref w, rfl, get_w ed, Nat.zero_le _, fun l nl => ⟨_, _, .lst (sqL (by rw [upd_ne (ne_of_none ew nl)]; exact ew)) (DaL.ints (S := []) ws).dp, .lst (sqL upd_same) .nil, shaped_ints ws, shaped_ints [], _, rfl, ?_⟩⟩
      rw [eqv_nil]
      have ed1 : (upd H l (.lst [])) d = some (.dK (drawKV w c r t)) := by rw [upd_ne (ne_of_none ed nl)]; exact ed
      have ew1 : (upd H l (.lst [])) w = some (.lst (ws.map V.int)) := by rw [upd_ne (ne_of_none ew nl)]; exact ew
      have k1 : Kp [d, w] H (upd H l (.lst [])) := Kp.new nl
      have hD1 := hD.kp0 (Kp.new (o := .lst []) nl)
      cases ws with
      | nil =>
        refine ite2 (fun y => Bool.noConfusion y) fun _ => ?_
        refine ⟨.ref d, rfl, d, w, c, N, rfl, hD1, hN, fun H2 i k2 hD2 => ?_⟩
        obtain ⟨⟨r2, t2, ed2, h12, h22⟩, ⟨ws2, ew2, lw2⟩, ⟨cs2, ec2, lc2⟩⟩ := id hD2
        refine ⟨.ref d, rfl, d, _, rfl, put_r ed2, ?_⟩
        refine fin _ ((k1.trans (k2.mono fun b hb => by rw [List.mem_singleton.mp hb]; simp)).set (by simp) fun u e => by rw [ed2] at e; cases e; rfl) ⟨⟨_, t2, upd_same, h12, h22⟩, ⟨ws2, by rw [upd_ne (Ne.symm ndw)]; exact ew2, lw2⟩, ⟨cs2, by rw [upd_ne (Ne.symm ndc)]; exact ec2, lc2⟩⟩
      | cons w0 wr =>
        refine ite2 (fun _ => ?_) fun y => absurd rfl y
        have sx : seqIndex? 0 ((w0 :: wr).map V.int).length = some 0 := by
          refine (ixN_seq (n := ((w0 :: wr).map V.int).length) (i := 0) (j := 0) ?_).1
          unfold ixN
          rw [if_pos (by decide), if_pos (by rw [List.length_map, List.length_cons]; omega)] <;> rfl
        refine ⟨.ref d, rfl, d, .ref w, rfl, get_w ed1, .inl ⟨rfl, _, sqL ew1⟩, w, _, 0, 0, .int w0, rfl, rfl, ew1, by decide, by decide, sx, rfl, ?_⟩
        have lwr : wr.length ≤ 1000 := by
          rw [List.length_cons] at lw
          omega
        have ed2 : (upd (upd H l (.lst [])) w (.lst (((w0 :: wr).map V.int).eraseIdx 0))) d = some (.dK (drawKV w c r t)) := by rw [upd_ne ndw]; exact ed1
        refine ⟨.ref d, rfl, d, _, rfl, put_r ed2, ?_⟩
        refine fin _ ((k1.set (by simp) fun u e => by rw [ew1] at e; cases e; rfl).set (by simp) fun u e => by rw [ed2] at e; cases e; rfl) ⟨⟨_, t, upd_same, h1, by omega⟩, ⟨wr, by rw [upd_ne (Ne.symm ndw), upd_same] <;> rfl, lwr⟩, ?_⟩
        by_cases hwc : c = w
        · subst hwc
          exact ⟨wr, by rw [upd_ne (Ne.symm ndw), upd_same] <;> rfl, lwr⟩
        · exact ⟨cs, by rw [upd_ne (Ne.symm ndc), upd_ne hwc, upd_ne (ne_of_none ec nl)]; exact ec, lc⟩
    · exact fin H .refl (hD.mono (Nat.le_succ N))
/-! ### _law_pick -/
def spPick (K : PySem.W.Frag) : Sp := fun vs H Q _ => ∃ d w c N l xs, vs = [.ref d, .ref l] ∧ Dr H d w c N ∧ N ≤ 1000000000 ∧ H l = some (.lst xs) ∧ l ∉ [d, w] ∧ xs ≠ [] ∧ xs.length ≤ 1000 ∧ ∀ H' x, Kp [d, w] H H' → Dr H' d w c (N + 1) → x ∈ xs → Q x H'
theorem ok_pick {f f1 : Addr} {fd fd1 : FuncData} {k : Nat} (F : Fun K "_law_pick" "_law_pick" s_l_pick f fd) (T : Bi mg) (F1 : Fun K "_law_take" "_law_take" s_l_take f1 fd1) (b1 : Binds K fd1 ["draw", "many"] []) (g1 : mg "_law_take" = some (.ref f1)) (G1 : FnOk P w K mg base CX0 (k + 2) f1 fd1 ["draw", "many"] spTake) :
    FnOk P w K mg base CX0 (k + 3) f fd ["draw", "some"] (spPick K) := by
  refine F.ok sc_l_pick (fun vs H Q E h => ?_) (fun cdv A outer s H vs Q E hr h => ?_)
  · obtain ⟨_, _, _, _, _, _, rfl, _⟩ := h
    rfl
  · obtain ⟨d, w, c, N, l, xs, rfl, hD, hN, hl, hn, hne, hlen, q⟩ := h
    refine ⟨_, (pss_one (ps_ret (pe_ix ix_seq (pv 1) (pe_call G1 hr (by rfl) g1 F1.kp b1 .nil pass0 (pa_cons (pv 0) (pa_cons (pe_callB call_len (by rfl) T.m_len (by decide +kernel) (pa_cons (pv 1) pa_nil)) pa_nil))) (fun _ _ => rfl)))), ?_⟩
    have hpos : 0 < xs.length := List.length_pos_iff.mpr hne
    refine ⟨.ref l, rfl, .ref d, rfl, .ref l, rfl, .ref l, xs.length, rfl, .inl ⟨xs, sqL hl, rfl⟩, d, w, c, N, xs.length, rfl, hD, hN, by omega, by omega, fun H' r k1 hD1 h0 h1 => ?_⟩
    have hr1 : r.toNat < xs.length := by omega
    have er : ((r.toNat : Nat) : Int) = r := Int.toNat_of_nonneg h0
    have := ixE (K := K) (H := H') (a := l) (xs := xs) (n := r.toNat) (Q := Q) (.inl (sqL (k1 l _ hl (.inr hn)))) (List.getElem?_eq_getElem hr1) (q H' _ k1 hD1 (List.getElem_mem hr1))
    rw [er] at this
    exact this
end
end K16
set_option Elab.async false
set_option linter.all false
set_option maxRecDepth 100000
set_option maxHeartbeats 400000
namespace K16
open PySem PySem.Spec PyProof.Rows L2 Kb
theorem lc_by {J : It} {n : Nat} {g : TG} {tt : TT} {te : TE} {vs : List Nat} {σ : L2.St} {H0 : Hp} {D : Addr} {Q : Hp → Prop} (Pv : Nat → Hp → Prop) (h0 : Pv 0 H0)
    (hs : ∀ i H, i < n → Pv i H → J.go i H ∧ ∀ x H', J.yld i H x H' → g x (wipe σ vs) H' fun σ2 H2 => wipe σ2 vs = wipe σ vs ∧ tt σ2 H2 fun b H3 =>
      if b = true then te σ2 H3 fun y H4 => ∃ acc, H4 D = some (.lst acc) ∧ acc.length < sizeLine ∧ Pv (i + 1) (upd H4 D (.lst (acc ++ [y]))) else Pv (i + 1) H3)
    (hd : ∀ H, Pv n H → J.stop n H ∧ Q H) :
    ∃ W : Nat → Nat → Hp → Prop, (∃ m, W 0 m H0) ∧ ∀ i m H, W i m H →
      (J.stop i H ∧ Q H) ∨ (J.go i H ∧ ∃ Nx : Hp → Prop, (∀ H', Nx H' → ∃ m', m' < m ∧ W (i + 1) m' H') ∧ ∀ x H', J.yld i H x H' → g x (wipe σ vs) H' fun σ2 H2 => wipe σ2 vs = wipe σ vs ∧ tt σ2 H2 fun b H3 =>
        if b = true then te σ2 H3 fun y H4 => ∃ acc, H4 D = some (.lst acc) ∧ acc.length < sizeLine ∧ Nx (upd H4 D (.lst (acc ++ [y]))) else Nx H3) := by
  refine ⟨fun i m H => m = n - i ∧ i ≤ n ∧ Pv i H, ⟨n, by simp, Nat.zero_le _, h0⟩, ?_⟩
  rintro i m H ⟨rfl, hi, p⟩
  by_cases hlt : i < n
  · obtain ⟨h1, h2⟩ := hs i H hlt p
    exact .inr ⟨h1, Pv (i + 1), fun H' p' => ⟨n - (i + 1), by omega, rfl, hlt, p'⟩, h2⟩
  · have e : i = n := by omega
    subst e
    exact .inl (hd H p)
/-! #### tables written in a def -/
def tEn (e : En) : TE := tTup (tCons (tC (.int e.1)) (tCons (tC (.str e.2.1)) (tCons (tC (.str e.2.2)) tNil)))
def tEns : List En → TA
  | [] => tNil
  | e :: r => tCons (tEn e) (tEns r)
def EnAt (H : Hp) (v : V) (e : En) : Prop := ∃ T, v = .ref T ∧ H T = some (.tup [.int e.1, .str e.2.1, .str e.2.2])
theorem enAt_kp {S : List Addr} {H H' : Hp} (k : Kp S H H') : ∀ {vs : List V} {l : List En}, Paired (EnAt H) vs l → Paired (EnAt H') vs l
  | _, _, .nil => .nil
  | _, _, .cons ⟨T, e, h⟩ r => .cons ⟨T, e, k.tup h⟩ (enAt_kp k r)
theorem tEns_ok : ∀ (l : List En) (σ : L2.St) (H : Hp) (Q : List V → Hp → Prop), (∀ vs H', Kp [] H H' → Paired (EnAt H') vs l → Q vs H') → tEns l σ H Q
  | [], σ, H, Q, h => h [] H .refl .nil
  | e :: r, σ, H, Q, h => by
    refine ⟨small (by show 3 ≤ 1000; omega), fun p np => ?_⟩
    exact tEns_ok r σ _ _ fun vs H' k hp => h _ H' ((Kp.new np).trans k) (.cons ⟨p, rfl, k.tup upd_same⟩ hp)
theorem lstEns_ok (l : List En) (σ : L2.St) (H : Hp) (Q : VK) (hl : l.length ≤ 1000) (h : ∀ p vs H', Kp [] H H' → H p = none → H' p = some (.lst vs) → Paired (EnAt H') vs l → Q (.ref p) H') : tLst (tEns l) σ H Q := by
  refine tEns_ok l σ H _ fun vs H' k hp => ⟨small (by rw [paired_len hp]; exact hl), fun p np => ?_⟩
  exact h p vs _ (k.put2 np) (k.none List.not_mem_nil np) upd_same (enAt_kp (Kp.new (S := []) np) hp)
theorem paired_app {α β : Type} {F : α → β → Prop} : ∀ {l l' : List α} {m m' : List β}, Paired F l m → Paired F l' m' → Paired F (l ++ l') (m ++ m')
  | _, _, _, _, .nil, h => h
  | _, _, _, _, .cons a r, h => .cons a (paired_app r h)
def law1 : List En := [(1, "set", "rc"), (2, "copy", "rr"), (3, "plus", "rr"), (4, "less", "rr"), (5, "ask", "r"), (6, "show", "r"), (7, "load", "rD"), (8, "store", "rD")]
def law2 : List En := [(9, "item", "rrLD"), (10, "fill", "rrLD"), (11, "take", "pD"), (12, "pick", "prLD"), (13, "alike", "rpp"), (14, "call", "d"), (15, "call", "D")]
def law3 : List En := [(16, "jump", "d"), (17, "jump", "D"), (18, "if", "rd"), (19, "if", "rD"), (20, "leap", "p"), (21, "return", ""), (22, "stop", ""), (23, "fail", "f")]
def law4 : List En := [(27, "by load", "rcD"), (28, "by store", "rcD"), (29, "by item", "rrLD"), (30, "by fill", "rrLD"), (31, "by take", "pD"), (32, "by pick", "prLD")]
def law5 : List En := [(35, "by call", "D"), (37, "by jump", "D")]
theorem law_split : ((((law1 ++ law2) ++ law3) ++ law4) ++ law5) = lawL := rfl
theorem pa3 {X : Cx} {es : List Expr} {r : List En} {i : Int} {y z : Str} {j1 j2 j3 kk} {p1 p2 p3 pos : Pos} (h : PA X es (tEns r)) :
    PA X (.Tuple [.Constant (.int i) j1 p1, .Constant (.str y) j2 p2, .Constant (.str z) j3 p3] kk pos :: es) (tEns ((i, y, z) :: r)) :=
  pa_cons (pe_tup (pa_cons pe_int (pa_cons pe_str (pa_cons pe_str pa_nil)))) h
theorem pa0 {X : Cx} : PA X [] (tEns []) := pa_nil
section
variable {P : Program} {w : World} {K : PySem.W.Frag} {mg : Str → Option Value} {base : Heap}
/-! ### _law_codes -/
def spCodes : Sp := fun vs H Q _ => vs = [] ∧ ∀ p es H', Kp [] H H' → H p = none → H' p = some (.lst es) → Paired (EnAt H') es lawL → Q (.ref p) H'
theorem catL {H : Hp} {p1 p2 : Addr} {v1 v2 : List V} {Q : VK} (e1 : H p1 = some (.lst v1)) (e2 : H p2 = some (.lst v2)) (hl : v1.length + v2.length ≤ 1000) (q : ∀ p, H p = none → Q (.ref p) (upd H p (.lst (v1 ++ v2)))) : rCat (.ref p1) (.ref p2) H Q :=
  ⟨p1, p2, v1, v2, rfl, rfl, e1, e2, small hl, q⟩
theorem ok_codes {f : Addr} {fd : FuncData} {k : Nat} (F : Fun K "_law_codes" "_law_codes" s_l_codes f fd) : FnOk P w K mg base CX0 (k + 1) f fd [] spCodes := by
  refine F.ok sc_l_codes (fun vs H Q E h => ?_) (fun cdv A outer s H vs Q E hr h => ?_)
  · obtain ⟨rfl, _⟩ := h
    rfl
  · obtain ⟨rfl, q⟩ := h
    refine ⟨_, (pss_cons (ps_set (i := 0) sc_l_codes.nd rfl (.inl rfl) (pe_lst (pa3 (pa3 (pa3 (pa3 (pa3 (pa3 (pa3 (pa3 pa0))))))))))
      (pss_cons (ps_set (i := 0) sc_l_codes.nd rfl (.inl rfl) (pe_op op_cat (pv 0) (pe_lst (pa3 (pa3 (pa3 (pa3 (pa3 (pa3 (pa3 pa0))))))))))
      (pss_cons (ps_set (i := 0) sc_l_codes.nd rfl (.inl rfl) (pe_op op_cat (pv 0) (pe_lst (pa3 (pa3 (pa3 (pa3 (pa3 (pa3 (pa3 (pa3 pa0)))))))))))
      (pss_cons (ps_set (i := 0) sc_l_codes.nd rfl (.inl rfl) (pe_op op_cat (pv 0) (pe_lst (pa3 (pa3 (pa3 (pa3 (pa3 (pa3 pa0)))))))))
      (pss_one (ps_ret (pe_op op_cat (pv 0) (pe_lst (pa3 (pa3 pa0)))))))))), ?_⟩
    unfold tSeq tAsg
    refine lstEns_ok law1 _ _ _ (by decide) fun p1 v1 H1 k1 n1 e1 h1 => ?_
    refine ⟨.ref p1, rfl, ?_⟩
    refine lstEns_ok law2 _ _ _ (by decide) fun p2 v2 H2 k2 n2 e2 h2 => catL (k2 _ _ e1 (.inr List.not_mem_nil)) e2 (by rw [paired_len h1, paired_len h2]; decide) fun p3 n3 => ?_
    have k3 : Kp [] H (upd H2 p3 (.lst (v1 ++ v2))) := (k1.trans k2).put2 n3
    have h3 : Paired (EnAt (upd H2 p3 (.lst (v1 ++ v2)))) (v1 ++ v2) (law1 ++ law2) := enAt_kp (Kp.new (S := []) n3) (paired_app (enAt_kp k2 h1) h2)
    have e3 : (upd H2 p3 (.lst (v1 ++ v2))) p3 = some (.lst (v1 ++ v2)) := upd_same
    generalize (upd H2 p3 (.lst (v1 ++ v2))) = H3 at k3 h3 e3 ⊢
    refine ⟨.ref p3, rfl, ?_⟩
    refine lstEns_ok law3 _ _ _ (by decide) fun p4 v4 H4 k4 n4 e4 h4 => catL (k4 _ _ e3 (.inr List.not_mem_nil)) e4 (by rw [paired_len h3, paired_len h4]; decide) fun p5 n5 => ?_
    have k5 : Kp [] H (upd H4 p5 (.lst ((v1 ++ v2) ++ v4))) := (k3.trans k4).put2 n5
    have h5 : Paired (EnAt (upd H4 p5 (.lst ((v1 ++ v2) ++ v4)))) ((v1 ++ v2) ++ v4) ((law1 ++ law2) ++ law3) := enAt_kp (Kp.new (S := []) n5) (paired_app (enAt_kp k4 h3) h4)
    have e5 : (upd H4 p5 (.lst ((v1 ++ v2) ++ v4))) p5 = some (.lst ((v1 ++ v2) ++ v4)) := upd_same
    generalize (upd H4 p5 (.lst ((v1 ++ v2) ++ v4))) = H5 at k5 h5 e5 ⊢
    refine ⟨.ref p5, rfl, ?_⟩
    refine lstEns_ok law4 _ _ _ (by decide) fun p6 v6 H6 k6 n6 e6 h6 => catL (k6 _ _ e5 (.inr List.not_mem_nil)) e6 (by rw [paired_len h5, paired_len h6]; decide) fun p7 n7 => ?_
    have k7 : Kp [] H (upd H6 p7 (.lst (((v1 ++ v2) ++ v4) ++ v6))) := (k5.trans k6).put2 n7
    have h7 : Paired (EnAt (upd H6 p7 (.lst (((v1 ++ v2) ++ v4) ++ v6)))) (((v1 ++ v2) ++ v4) ++ v6) (((law1 ++ law2) ++ law3) ++ law4) := enAt_kp (Kp.new (S := []) n7) (paired_app (enAt_kp k6 h5) h6)
    have e7 : (upd H6 p7 (.lst (((v1 ++ v2) ++ v4) ++ v6))) p7 = some (.lst (((v1 ++ v2) ++ v4) ++ v6)) := upd_same
    generalize (upd H6 p7 (.lst (((v1 ++ v2) ++ v4) ++ v6))) = H7 at k7 h7 e7 ⊢
    refine ⟨.ref p7, rfl, ?_⟩
    refine lstEns_ok law5 _ _ _ (by decide) fun p8 v8 H8 k8 n8 e8 h8 => catL (k8 _ _ e7 (.inr List.not_mem_nil)) e8 (by rw [paired_len h7, paired_len h8]; decide) fun p9 n9 => ?_
    have k9 : Kp [] H (upd H8 p9 (.lst ((((v1 ++ v2) ++ v4) ++ v6) ++ v8))) := (k7.trans k8).put2 n9
    refine q _ _ _ k9 ((k7.trans k8).none List.not_mem_nil n9) upd_same ?_
    exact enAt_kp (Kp.new (S := []) n9) (paired_app (enAt_kp k8 h7) h8)
end
end K16
set_option Elab.async false
set_option linter.all false
set_option maxRecDepth 100000
set_option maxHeartbeats 1000000
namespace K16
open PySem PySem.Spec PyProof.Rows L2 Kb
def spL : List (Str × Int × Int) := [("r", 0, 4), ("p", 0, 2), ("c", 0, 64), ("f", 0, 63), ("L", 1, 65), ("d", -32, 32), ("D", -2048, 2048)]
def spn (z : Str) : Option (Int × Int) := (spL.find? fun q => decide (q.1 = z)).map (·.2)
/-- the law's spans of its own letters are the program's limits -/
def spnOk (z : Str) : Bool := match spn z, lim z with
  | some (a, b), some (c, d) => decide (a = c) && decide (b = d + 1)
  | _, _ => false
theorem spans_ok : ∀ e ∈ lawL, (lets e.2.2).all spnOk = true := by decide +kernel
theorem pairTup {z : Str} {tl th : TE} {lo hi : Int} {r : List (TE × TE)} {σ : L2.St} {H : Hp} {Q : List (V × V) → Hp → Prop} (hl : ∀ σ H Q, Q (.int lo) H → tl σ H Q) (hh : ∀ σ H Q, Q (.int hi) H → th σ H Q)
    (h : ∀ t H', Kp [] H H' → H' t = some (.tup [.int lo, .int hi]) → tPairs r σ H' fun ps H3 => Q ((.str z, .ref t) :: ps) H3) : tPairs ((tC (.str z), tTup (tCons tl (tCons th tNil))) :: r) σ H Q := by
  unfold tPairs
  show tTup (tCons tl (tCons th tNil)) σ H (fun y H2 => tPairs r σ H2 fun ps H3 => Q ((.str z, y) :: ps) H3)
  refine hl _ _ _ (hh _ _ _ ?_)
  exact ⟨small (by show 2 ≤ 1000; omega), fun p np => h p _ (Kp.new np) upd_same⟩
section
variable {P : Program} {w : World} {K : PySem.W.Frag} {mg : Str → Option Value} {base : Heap}
/-! ### _law_span -/
def spSpan : Sp := fun vs H Q _ => ∃ z lo hi, vs = [.str z] ∧ spn z = some (lo, hi) ∧ ∀ H' t, Kp [] H H' → H' t = some (.tup [.int lo, .int hi]) → Q (.ref t) H'
theorem ok_span {f : Addr} {fd : FuncData} {k : Nat} (F : Fun K "_law_span" "_law_span" s_l_span f fd) : FnOk P w K mg base CX0 (k + 1) f fd ["sign"] spSpan := by
  refine F.ok sc_l_span (fun vs H Q E h => ?_) (fun cdv A outer s H vs Q E hr h => ?_)
  · obtain ⟨_, _, _, rfl, _⟩ := h
    rfl
  · obtain ⟨z, lo, hi, rfl, hz, q⟩ := h
    refine ⟨_, (pss_one (ps_ret (pe_dget (hu1 hr) (pe_disp (pps_cons pe_str (pe_tup (pa_cons pe_int (pa_cons pe_int pa_nil))) (pps_cons pe_str (pe_tup (pa_cons pe_int (pa_cons pe_int pa_nil))) (pps_cons pe_str (pe_tup (pa_cons pe_int (pa_cons pe_int pa_nil))) (pps_cons pe_str (pe_tup (pa_cons pe_int (pa_cons pe_int pa_nil)))
      (pps_cons pe_str (pe_tup (pa_cons pe_int (pa_cons pe_int pa_nil))) (pps_cons pe_str (pe_tup (pa_cons (pe_un un_neg pe_int) (pa_cons pe_int pa_nil))) (pps_cons pe_str (pe_tup (pa_cons (pe_un un_neg pe_int) (pa_cons pe_int pa_nil))) pps_nil))))))) (by rfl) (by rfl) (by simp) (by decide)) (pv 0) (fun _ _ => rfl)))), ?_⟩
    unfold tRet tDGet tDisp
    intro p np
    have k0 : Kp [] H (upd H p (.dK [])) := Kp.new np
    have e0 : (upd H p (.dK [])) p = some (.dK []) := upd_same
    generalize (upd H p (.dK [])) = H0 at k0 e0 ⊢
    have tc : ∀ (i : Int) (σ : L2.St) (H : Hp) (Q : VK), Q (.int i) H → tC (.int i) σ H Q := fun _ _ _ _ h => h
    have tn : ∀ (i : Int) (σ : L2.St) (H : Hp) (Q : VK), Q (.int (-i)) H → tUn (rU fun i => .int (-i)) (tC (.int i)) σ H Q := fun _ _ _ _ h => ⟨_, rfl, h⟩
    refine pairTup (tc _) (tc _) fun t1 H1 k1 e1 => pairTup (tc _) (tc _) fun t2 H2 k2 e2 => pairTup (tc _) (tc _) fun t3 H3 k3 e3 => pairTup (tc _) (tc _) fun t4 H4 k4 e4 => pairTup (tc _) (tc _) fun t5 H5 k5 e5 => pairTup (tn 32) (tc _) fun t6 H6 k6 e6 => pairTup (tn 2048) (tc _) fun t7 H7 k7 e7 => ?_
    have kk : Kp [] H0 H7 := k1.trans (k2.trans (k3.trans (k4.trans (k5.trans (k6.trans k7)))))
    have e2' := (k3.trans (k4.trans (k5.trans (k6.trans k7)))).tup e2
    have e1' := (k2.trans (k3.trans (k4.trans (k5.trans (k6.trans k7))))).tup e1
    have e3' := (k4.trans (k5.trans (k6.trans k7))).tup e3
    have e4' := (k5.trans (k6.trans k7)).tup e4
    have e5' := (k6.trans k7).tup e5
    have e6' := k7.tup e6
    have ep := kk p _ e0 (.inr List.not_mem_nil)
    refine ⟨ep, [(.inr "r", .ref t1), (.inr "p", .ref t2), (.inr "c", .ref t3), (.inr "f", .ref t4), (.inr "L", .ref t5), (.inr "d", .ref t6), (.inr "D", .ref t7)], rfl, by show 7 ≤ 15; omega, ?_⟩
    have em : mergeK [] [((.inr "r" : Key), V.ref t1), (.inr "p", .ref t2), (.inr "c", .ref t3), (.inr "f", .ref t4), (.inr "L", .ref t5), (.inr "d", .ref t6), (.inr "D", .ref t7)] = [(.inr "r", .ref t1), (.inr "p", .ref t2), (.inr "c", .ref t3), (.inr "f", .ref t4), (.inr "L", .ref t5), (.inr "d", .ref t6), (.inr "D", .ref t7)] := rfl
    rw [em]
    have kf : Kp [] H (upd H7 p (.dK [(.inr "r", .ref t1), (.inr "p", .ref t2), (.inr "c", .ref t3), (.inr "f", .ref t4), (.inr "L", .ref t5), (.inr "d", .ref t6), (.inr "D", .ref t7)])) := (k0.trans kk).put np
    have tt : ∀ {a : Addr} {xs : List V}, H7 a = some (.tup xs) → (upd H7 p (.dK [(.inr "r", .ref t1), (.inr "p", .ref t2), (.inr "c", .ref t3), (.inr "f", .ref t4), (.inr "L", .ref t5), (.inr "d", .ref t6), (.inr "D", .ref t7)])) a = some (.tup xs) := fun {a xs} e => by
      rw [upd_ne (fun y => by rw [y, ep] at e; cases e)]
      exact e
    obtain ⟨q1, hq1, hq2⟩ := Option.map_eq_some_iff.mp hz
    have hm := List.mem_of_find?_eq_some hq1
    have hz2 : q1.1 = z := by simpa using List.find?_some hq1
    have g : ∀ (y : Str) (t : Addr), valV [((.inr "r" : Key), V.ref t1), (.inr "p", .ref t2), (.inr "c", .ref t3), (.inr "f", .ref t4), (.inr "L", .ref t5), (.inr "d", .ref t6), (.inr "D", .ref t7)] (.inr y) = some (.ref t) →
        DGet (upd H7 p (.dK [(.inr "r", .ref t1), (.inr "p", .ref t2), (.inr "c", .ref t3), (.inr "f", .ref t4), (.inr "L", .ref t5), (.inr "d", .ref t6), (.inr "D", .ref t7)])) p (.str y) (some (.ref t)) := fun y t e => e ▸ DGet.k (k := .inr y) upd_same
    simp only [spL, List.mem_cons, List.not_mem_nil, or_false] at hm
    subst hz2
    rcases hm with rfl | rfl | rfl | rfl | rfl | rfl | rfl <;> cases hq2
    · exact ⟨_, rfl, p, .ref t1, rfl, g _ t1 rfl, q _ t1 kf (tt e1')⟩
    · exact ⟨_, rfl, p, .ref t2, rfl, g _ t2 rfl, q _ t2 kf (tt e2')⟩
    · exact ⟨_, rfl, p, .ref t3, rfl, g _ t3 rfl, q _ t3 kf (tt e3')⟩
    · exact ⟨_, rfl, p, .ref t4, rfl, g _ t4 rfl, q _ t4 kf (tt e4')⟩
    · exact ⟨_, rfl, p, .ref t5, rfl, g _ t5 rfl, q _ t5 kf (tt e5')⟩
    · exact ⟨_, rfl, p, .ref t6, rfl, g _ t6 rfl, q _ t6 kf (tt e6')⟩
    · exact ⟨_, rfl, p, .ref t7, rfl, g _ t7 rfl, q _ t7 kf (tt e7)⟩
/-! ### _law_many -/
def spMany : Sp := fun vs H Q _ => ∃ z : Str, vs = [.str z] ∧ z.length ≤ 1000 ∧ ∀ H', Kp [] H H' → Q (.int (1 + z.length + ((lets z).filter isD).length)) H'
theorem filter_take_succ {α : Type} {p : α → Bool} {l : List α} {i : Nat} {x : α} (e : l[i]? = some x) : (l.take (i + 1)).filter p = (l.take i).filter p ++ if p x then [x] else [] := by
  rw [List.take_add_one, e, List.filter_append]
  congr 1
  simp [List.filter_cons]
theorem ok_many {f : Addr} {fd : FuncData} {k : Nat} (F : Fun K "_law_many" "_law_many" s_l_many f fd) (T : Bi mg) : FnOk P w K mg base CX0 (k + 1) f fd ["signs"] spMany := by
  refine F.ok sc_l_many (fun vs H Q E h => ?_) (fun cdv A outer s H vs Q E hr h => ?_)
  · obtain ⟨_, rfl, _⟩ := h
    rfl
  · obtain ⟨z, rfl, hz, q⟩ := h
    refine ⟨_, (pss_one (ps_ret (pe_op op_add (pe_op op_add pe_int (pe_callB call_len (by rfl) T.m_len (by decide +kernel) (pa_cons (pv 0) pa_nil))) (pe_callB call_len (by rfl) T.m_len (by decide +kernel) (pa_cons
      (pe_lc (own := [("sign", 1)]) (g := gName 1) (by rfl) sc_l_many.nd (pi_str (pv 0)) (blkOk_by (own := [("sign", 1)]) (N := ["signs", "sign"]) (sc := defScope s_l_many) (by decide +kernel)) (fun _ _ _ _ _ => pg_name (i := 1) sc_l_many.nd rfl (.inl rfl)) (fun _ _ _ _ _ => pts_one (pt_cmpR op_eq (pv 1) pe_str (nomark _))) (fun _ _ _ _ _ => pv 1)) pa_nil))))), ?_⟩
    refine ⟨.str z, rfl, .str z, z.length, rfl, ⟨small hz, rfl⟩, 1, _, rfl, rfl, .str z, rfl, z, rfl, fun l nl => ?_⟩
    refine lc_by (J := Its z) (g := gName 1) (tt := tTest (tOp rEq (tVar 1) (tC (.str "D")))) (te := tVar 1) (vs := [1]) (σ := L2.start ["signs", "sign"] [.str z]) (D := l) (H0 := upd H l (.lst [])) (n := (lets z).length) (fun i H' => Kp [] H H' ∧ H' l = some (.lst (((lets z).take i).filter isD |>.map V.str))) ⟨Kp.new nl, upd_same⟩ ?_ ?_
    · rintro i H1 hi ⟨k1, e1⟩
      have hc0 : z.cps.size = (lets z).length := (lets_len z).symm
      refine ⟨by show i < z.cps.size; omega, ?_⟩
      rintro v H2 ⟨rfl, c, hc, rfl⟩
      have gz : (lets z)[i]? = some (one c) := by
        show (z.cps.toList.map one)[i]? = some (one c)
        rw [List.getElem?_map, Array.getElem?_toList, hc] <;> rfl
      refine ⟨rfl, .str (one c), rfl, rfl, _, rfl, ?_⟩
      have ft := filter_take_succ (p := isD) gz
      by_cases hd : one c = ("D" : Str)
      · refine ite2 (fun _ => ?_) fun y => absurd (decide_eq_true (congrArg V.str hd)) y
        refine ⟨.str (one c), rfl, _, e1, ?_, k1.put nl, ?_⟩
        · refine small1000 ?_
          rw [List.length_map]
          have h1 := List.length_filter_le isD ((lets z).take i)
          have h2 : ((lets z).take i).length ≤ (lets z).length := by rw [List.length_take]; exact Nat.min_le_right _ _
          rw [lets_len] at h2
          omega
        · rw [upd_same, ft]
          have : isD (one c) = true := decide_eq_true hd
          rw [this, if_pos rfl, List.map_append] <;> rfl
      · refine ite2 (fun y => absurd (V.str.inj (of_decide_eq_true y)) hd) fun _ => ⟨k1, ?_⟩
        have : isD (one c) = false := decide_eq_false hd
        rw [ft, this, e1]
        simp
    · rintro H1 ⟨k1, e1⟩
      rw [List.take_length] at e1
      refine ⟨by show z.cps.size ≤ _; rw [lets_len]; exact Nat.le_refl _, .ref l, _, rfl, .inl ⟨_, sqL e1, rfl⟩, _, _, rfl, rfl, ?_⟩
      rw [List.length_map]
      exact q H1 k1
end
end K16
set_option Elab.async false
set_option linter.all false
set_option maxRecDepth 100000
set_option maxHeartbeats 1000000
namespace K16
open PySem PySem.Spec PyProof.Rows L2 Kb LamX
section
variable {X : Cx}
theorem takes_len {W : WX} (tk : Takes X W) : Takes X (fun cls d σ H => σ.length = X.N.length → W cls d σ H) := fun u s' ⟨a, B, sI, pins, σ, H, cls, d, e, I, nb, up, sky, na, os, ag, w⟩ =>
  tk u s' ⟨a, B, sI, pins, σ, H, cls, d, e, I, nb, up, sky, na, os, ag, w I.len⟩
theorem set3 (σ : L2.St) (h : σ.length = 3) (x y z : Option V) : ((σ.set 2 x).set 1 y).set 2 z = [σ.getD 0 none, y, z] ∧ (σ.set 2 x)[2]? = some x := by
  match σ, h with
  | [a, b, c], _ => exact ⟨rfl, rfl⟩
theorem caught_gives {q : Str} {g CL : Addr} {cdg : Value} (hme : X.mg "LinkError" = some (.ref CL)) :
    GivesTo X ["act", "found", "raised"] "_law_caught" (defScope s_l_caught) g cdg (defBody s_l_caught) "act" q (TCaught X.K CL) := by
  intro f c' s H Q tl act hc h
  refine ⟨_, pss_cons (ps_try_keep (X := (cxOf C8.CX0 X.prog X.w X.K X.mg X.base ["act", "found", "raised"] "_law_caught" (defScope s_l_caught) g cdg X.A X.stack s H C8.E0).nox) (i := 2) (n := "raised") (c := .ref CL)
      (tb := fun W D σ H => ∃ Ech : XK, (∀ cls d σ' H', Ech cls d H' → σ'.length = 3 → W cls d σ' H') ∧ σ[0]? = some (some (.ref f)) ∧ H c' = some (CodeO c' q) ∧ tl Ech H (fun v H' => D.nx (σ.set 1 (some v)) H'))
      (ts := fun a cls d => tAsg (tVar 2) (gName 1)) (Wout := fun _ _ _ _ => False)
      rfl rfl rfl sc_l_caught.nd rfl rfl ⟨rfl, by decide, .inl hme⟩ LamX.takes0 (fun W pn xe tk _ => ?_) (fun a oe cls d pn _ _ => pss_one (ps_set (i := 1) sc_l_caught.nd rfl (.inl rfl) (pv 2)))) (pss_one (ps_ret (pv 1))), ?_⟩
  · have key : ∀ p1 p2 p3 p4 : Pos, PSs ((cxOf C8.CX0 X.prog X.w X.K X.mg X.base ["act", "found", "raised"] "_law_caught" (defScope s_l_caught) g cdg X.A X.stack s H C8.E0).tr pn xe) [.Assign [.Name "found" p3] (.Call (.Name "act" p1) [] [] p2) p4]
        (fun D σ H => ∃ Ech : XK, (∀ cls d σ' H', Ech cls d H' → σ'.length = 3 → W cls d σ' H') ∧ σ[0]? = some (some (.ref f)) ∧ H c' = some (CodeO c' q) ∧ tl Ech H (fun v H' => D.nx (σ.set 1 (some v)) H')) := fun p1 p2 p3 p4 => by
      refine ⟨fun pins s' σ H' D I h' => ?_⟩
      obtain ⟨Ech, hW, h1, h2, h3⟩ := h'
      have hp := act (fun cls d σ H => σ.length = 3 → W cls d σ H) pn xe Ech p1 p2 (takes_len tk) (fun cls d σ' H' e hl => hW cls d σ' H' e hl)
      have hq := pss_one (ps_set (i := 1) (x := "found") (pos' := p3) (X := ((cxOf C8.CX0 X.prog X.w X.K X.mg X.base ["act", "found", "raised"] "_law_caught" (defScope s_l_caught) g cdg X.A X.stack s H C8.E0).tr pn xe)) (pos := p4) sc_l_caught.nd rfl (.inl rfl) hp)
      exact hq.run pins s' σ H' D I ⟨h1, h2, h3⟩
    exact key _ _ _ _
  · refine ⟨fun cls d H' => PySem.W.exmOne X.K cls (.ref CL) = some true ∧ ∀ a, H' a = none → Q (.ref a) (upd H' a (ExV cls d a)), fun cls d σ' H' ⟨e1, e2⟩ hl => ⟨true, e1, fun _ a na => ?_, fun z => Bool.noConfusion z⟩, rfl, hc, ?_⟩
    · obtain ⟨e3, e4⟩ := set3 σ' hl (some (.ref a)) (some (.ref a)) none
      refine ⟨.ref a, e4, ?_⟩
      refine ⟨.ref a, ?_, e2 a na⟩
      rw [e3]
      rfl
    · refine Eq.mpr (congrArg (tl _ H) (funext fun v => funext fun H' => propext ⟨fun ⟨x, e, q⟩ => by cases e; exact q, fun q => ⟨v, rfl, q⟩⟩)) h
end
end K16
set_option Elab.async false
set_option linter.all false
set_option maxRecDepth 100000
set_option maxHeartbeats 1000000
namespace K16
open PySem PySem.Spec PyProof.Rows L2 Kb
section
variable {P : Program} {w : World} {K : PySem.W.Frag} {mg : Str → Option Value} {base : Heap}
/-! ### _law_cells_of -/
def spCellsOf (K : PySem.W.Frag) : Sp := fun vs H Q _ => ∃ (c : Int) (z : Str) (a : Addr) (ps : List Int), vs = [.int c, .str z, .ref a] ∧ SqE K H a (ps.map V.int) ∧ z.length ≤ 100 ∧
  ∀ H' p, Kp [] H H' → H' p = some (.tup ((c :: encs ((ps.map PyData.int).zip (lets z))).map V.int)) → Q (.ref p) H'
theorem ok_cells_of {f : Addr} {fd : FuncData} {k : Nat} (F : Fun K "_law_cells_of" "_law_cells_of" s_l_cells_of f fd) (T : Bi mg) : FnOk P w K mg base CX0 (k + 1) f fd ["code", "signs", "parts"] (spCellsOf K) := by
  refine F.ok sc_l_cells_of (fun vs H Q E h => ?_) (fun cdv A outer s H vs Q E hr h => ?_)
  · obtain ⟨_, _, _, _, rfl, _⟩ := h
    rfl
  · obtain ⟨c, z, a, ps, rfl, hS, hz, q⟩ := h
    refine ⟨_, (pss_cons (ps_set (i := 3) sc_l_cells_of.nd rfl (.inl rfl) (pe_lst (pa_cons (pv 0) pa_nil)))
      (pss_cons (ps_for PassesOwn.never rfl (pi_zipU (by rfl) T.m_zip (pa_cons (pv 1) (pa_cons (pv 2) pa_nil))) (pg_tup (by rfl) (pgs_cons (pg_name (i := 4) sc_l_cells_of.nd rfl (.inl rfl)) (pgs_cons (pg_name (i := 5) sc_l_cells_of.nd rfl (.inl rfl)) pgs_nil))) (pss_one (ps_set (i := 3) sc_l_cells_of.nd rfl (.inl rfl) (pe_op op_cat (pe_op op_cat (pv 3) (pe_ifExp (pt_cmpR op_eq (pv 4) pe_str (nomark _)) (pe_lst (pa_cons (pe_op op_fdiv (pe_op op_mod (pe_callTy call_int1 (by rfl) T.m_int (by decide +kernel) (pa_cons (pe_op op_add (pv 5) pe_int) pa_nil)) pe_int) pe_int) pa_nil)) (pe_lst pa_nil))) (pe_lst (pa_cons (pe_op op_mod (pe_callTy call_int1 (by rfl) T.m_int (by decide +kernel) (pa_cons (pe_op op_add (pv 5) pe_int) pa_nil)) pe_int) pa_nil))))))
      (pss_one (ps_ret (pe_callTy call_tuple_of (by rfl) T.m_tuple (by decide +kernel) (pa_cons (pv 3) pa_nil)))))), ?_⟩
    refine ⟨.int c, rfl, small (by show 1 ≤ 1000; omega), fun l0 nl0 => ?_⟩
    have k0 : Kp [] H (upd H l0 (.lst [.int c])) := Kp.new nl0
    have e0 : (upd H l0 (.lst [.int c])) l0 = some (.lst [.int c]) := upd_same
    generalize (upd H l0 (.lst [.int c])) = H0 at k0 e0 ⊢
    obtain ⟨S1, s1, s2, s3, s4⟩ := hS.sc
    have ok1 : ∀ H', Kp [] H H' → S1.ok K H' := fun H' k => s4 H' (hS.kp k) (sqL_kp k) (sqT_kp k)
    refine ⟨.str z, rfl, .ref a, rfl, .txt z, S1, by rw [s1] <;> rfl, trivial, ok1 H0 k0, ?_⟩
    have hn : min (Sc.txt z).len S1.len = ((ps.map PyData.int).zip (lets z)).length := by
      rw [List.length_zip, lets_len, s2, List.length_map, List.length_map]
      exact Nat.min_comm _ _
    have hzl : ((ps.map PyData.int).zip (lets z)).length ≤ 100 := by
      rw [List.length_zip, lets_len]
      omega
    refine for_by (n := ((ps.map PyData.int).zip (lets z)).length) (fun i σ H' => Kp [] H H' ∧ ∃ l y4 y5, H' l = some (.lst ((c :: encs (((ps.map PyData.int).zip (lets z)).take i)).map V.int)) ∧ σ = [some (.int c), some (.str z), some (.ref a), some (.ref l), y4, y5])
      ⟨k0, l0, _, _, e0, rfl⟩ ?_ ?_
    · rintro i σ H1 hi ⟨k1, l, y4, y5, el, rfl⟩
      refine ⟨⟨trivial, ok1 H1 k1, by rw [hn]; exact hi⟩, ?_⟩
      rintro v H2 ⟨t, u, v2, rfl, nt, rfl, hu, hv2⟩
      obtain ⟨ch, rfl, hc'⟩ := lets_get hu
      rw [s3, List.getElem?_map] at hv2
      obtain ⟨p, hp, rfl⟩ := Option.map_eq_some_iff.mp hv2
      have gz : ((ps.map PyData.int).zip (lets z))[i]? = some (.int p, one ch) := by
        rw [List.getElem?_zip_eq_some, List.getElem?_map, hp]
        exact ⟨rfl, hc'⟩
      have k2 : Kp [] H (upd H1 t (.tup [.str (one ch), .int p])) := k1.trans (Kp.new nt)
      have el2 : (upd H1 t (.tup [.str (one ch), .int p])) l = some (.lst ((c :: encs (((ps.map PyData.int).zip (lets z)).take i)).map V.int)) := by rw [upd_ne (ne_of_none el nt)]; exact el
      have et2 : (upd H1 t (.tup [.str (one ch), .int p])) t = some (.tup [.str (one ch), .int p]) := upd_same
      generalize (upd H1 t (.tup [.str (one ch), .int p])) = H3 at k2 el2 et2 ⊢
      refine ⟨t, _, rfl, sqT et2, rfl, _, _, rfl, _, _, rfl, rfl, ?_⟩
      have len0 : ((c :: encs (((ps.map PyData.int).zip (lets z)).take i)).map V.int).length ≤ 500 := by
        have := encs_len (((ps.map PyData.int).zip (lets z)).take i)
        rw [List.length_take] at this
        simp only [List.length_map, List.length_cons]
        omega
      -- what stands behind both
      have fin : ∀ (H4 : Hp) (b : Addr) (mid : List Int), Kp [] H3 H4 → H4 b = some (.lst (mid.map V.int)) → mid.length ≤ 2 → encP (one ch) p = mid ++ [(p + 4096) % 64] →
          rCat (.ref l) (.ref b) H4 fun x H5 => tLst (tCons (tOp (rI (fun _ j => 0 < j) fun i j => .int (i % j)) (tCB (fun xs H Q => (∃ i, xs = [.int i] ∧ Q (.int i) H) ∨ ∃ k, xs = [.bl k] ∧ Q (.int (if k then 1 else 0)) H) (tCons (tOp (rI0 fun i j => .int (i + j)) (tVar 5) (tC (.int 4096))) tNil)) (tC (.int 64))) tNil)
            [some (.int c), some (.str z), some (.ref a), some (.ref l), some (.str (one ch)), some (.int p)] H5 fun y H6 => rCat x y H6 fun v H7 => Kp [] H H7 ∧ ∃ l' y4 y5, H7 l' = some (.lst ((c :: encs (((ps.map PyData.int).zip (lets z)).take (i + 1))).map V.int)) ∧
              [some (.int c), some (.str z), some (.ref a), some v, some (.str (one ch)), some (.int p)] = [some (.int c), some (.str z), some (.ref a), some (.ref l'), y4, y5] := by
        intro H4 b mid k4 eb hm he
        have el4 := k4 l _ el2 (.inr List.not_mem_nil)
        have e8 : ∀ A : List V, A.length ≤ 500 → A.length + (mid.map V.int).length ≤ 1000 := fun A hA => by
          rw [List.length_map]
          omega
        refine catL el4 eb (e8 _ len0) fun r nr => ?_
        refine ⟨.int p, rfl, _, _, rfl, rfl, .inl ⟨_, rfl, _, 64, rfl, rfl, (by show (0 : Int) < 64; decide), small (by show 1 ≤ 1000; omega), fun r2 nr2 => ?_⟩⟩
        have er : (upd (upd H4 r (.lst ((c :: encs (((ps.map PyData.int).zip (lets z)).take i)).map V.int ++ mid.map V.int))) r2 (.lst [.int ((p + 4096) % 64)])) r = some (.lst ((c :: encs (((ps.map PyData.int).zip (lets z)).take i)).map V.int ++ mid.map V.int)) := by
          rw [upd_ne (ne_of_none upd_same nr2), upd_same]
        refine catL er upd_same ?_ fun r3 nr3 => ⟨((k2.trans k4).put2 nr).put2 nr2 |>.put2 nr3, r3, _, _, ?_, rfl⟩
        · have e9 : ∀ (A : List V), A.length ≤ 500 → (A ++ mid.map V.int).length + 1 ≤ 1000 := fun A hA => by
            rw [List.length_append, List.length_map]
            omega
          exact e9 _ len0
        · rw [upd_same, List.take_add_one, gz]
          show some (HO.lst _) = some (HO.lst ((c :: encs (_ ++ [(PyData.int p, one ch)])).map V.int))
          rw [encs_snoc]
          show _ = some (HO.lst ((c :: (encs _ ++ encP (one ch) p)).map V.int))
          rw [he]
          simp [List.append_assoc]
      refine ⟨.ref l, rfl, .str (one ch), rfl, rfl, _, rfl, ?_⟩
      by_cases hd : one ch = ("D" : Str)
      · refine ite2 (fun _ => ?_) fun y => absurd (decide_eq_true (congrArg V.str hd)) y
        refine ⟨.int p, rfl, _, _, rfl, rfl, .inl ⟨_, rfl, _, 4096, rfl, rfl, (by show (0 : Int) < 4096; decide), _, 64, rfl, rfl, ⟨by decide, by decide⟩, small (by show 1 ≤ 1000; omega), fun b nb => ?_⟩⟩
        refine fin _ b [(p + 4096) % 4096 / 64] (Kp.new nb) upd_same (by show 1 ≤ 2; omega) ?_
        rw [enc_eq]
        unfold encL isD
        rw [decide_eq_true hd] <;> rfl
      · refine ite2 (fun y => absurd (V.str.inj (of_decide_eq_true y)) hd) fun _ => ?_
        refine ⟨Nat.zero_le _, fun b nb => ?_⟩
        refine fin _ b [] (Kp.new nb) upd_same (by show 0 ≤ 2; omega) ?_
        rw [enc_eq]
        unfold encL isD
        rw [decide_eq_false hd] <;> rfl
    · rintro σ H1 ⟨k1, l, y4, y5, el, rfl⟩
      refine ⟨⟨trivial, ok1 H1 k1, hn.symm⟩, ?_⟩
      rw [List.take_length] at el
      exact ⟨.ref l, rfl, l, _, rfl, .inl ⟨sqL el, fun r nr => q _ r (k1.put2 nr) upd_same⟩⟩
end
end K16
set_option Elab.async false
set_option linter.all false
set_option maxRecDepth 100000
set_option maxHeartbeats 1000000
namespace K16
open PySem PySem.Spec PyProof.Rows L2 Kb
def PsOk (ps : List Int) (ls : List Str) : Prop := ps.length = ls.length ∧ partsOk (ps.map .int) ls = true
theorem PsOk.snoc {ps : List Int} {ls : List Str} {z : Str} {lo hi v : Int} (h : PsOk ps ls) (hz : lim z = some (lo, hi)) (h1 : lo ≤ v) (h2 : v ≤ hi) : PsOk (ps ++ [v]) (ls ++ [z]) := by
  obtain ⟨e, p⟩ := h
  refine ⟨by rw [List.length_append, List.length_append, e] <;> rfl, ?_⟩
  unfold partsOk at p ⊢
  rw [List.map_append, List.zip_append (by rw [List.length_map, e]), List.all_append, p]
  show (true && (partOk (.int v, z) && true)) = true
  have : partOk (.int v, z) = true := by
    unfold partOk
    rw [hz]
    show (decide (lo ≤ v) && decide (v ≤ hi)) = true
    rw [decide_eq_true h1, decide_eq_true h2] <;> rfl
  rw [this] <;> rfl
theorem spn_of {e : En} (he : e ∈ lawL) {z : Str} (hz : z ∈ lets e.2.2) : ∃ lo hi, spn z = some (lo, hi + 1) ∧ lim z = some (lo, hi) ∧ lo ≤ hi ∧ hi - lo < 5000 ∧ -5000 ≤ lo ∧ hi ≤ 5000 := by
  have h := List.all_eq_true.mp (spans_ok e he) z hz
  unfold spnOk at h
  cases e1 : spn z with
  | none => rw [e1] at h; cases h
  | some p =>
    cases e2 : lim z with
    | none => rw [e1, e2] at h; cases h
    | some q =>
      obtain ⟨a, b⟩ := p
      obtain ⟨c, d⟩ := q
      rw [e1, e2] at h
      obtain ⟨h1, h2⟩ := Bool.and_eq_true_iff.mp h
      have h1 := of_decide_eq_true h1
      have h2 := of_decide_eq_true h2
      subst h1 h2
      obtain ⟨r, hr1, hr2⟩ := Option.map_eq_some_iff.mp e2
      have key : ∀ r ∈ limL, r.2.1 ≤ r.2.2 ∧ r.2.2 - r.2.1 < 5000 ∧ -5000 ≤ r.2.1 ∧ r.2.2 ≤ 5000 := by decide
      have := key r (List.mem_of_find?_eq_some hr1)
      rw [hr2] at this
      exact ⟨a, d, rfl, rfl, this.1, this.2.1, this.2.2.1, this.2.2.2⟩
section
variable {P : Program} {w : World} {K : PySem.W.Frag} {mg : Str → Option Value} {base : Heap}
theorem Dr.there {H : Hp} {d w c : Addr} {N : Nat} (D : Dr H d w c N) {p : Addr} (np : H p = none) : p ∉ [d, w] := fun hm => by
  obtain ⟨⟨r, t, e, h1, h2⟩, ⟨ws, ew, lw⟩, ⟨cs, ec, lc⟩⟩ := D
  simp only [List.mem_cons, List.not_mem_nil, or_false] at hm
  rcases hm with h | h
  · rw [h, e] at np; cases np
  · rw [h, ew] at np; cases np
/-! ### _law_made -/
def MadeAt (H : Hp) (p : Addr) (e : En) (ps : List Int) : Prop := ∃ T1 T2, H p = some (.tup [.ref T1, .ref T2]) ∧ H T1 = some (.tup (.str e.2.1 :: ps.map V.int)) ∧ H T2 = some (.tup ((e.1 :: encs ((ps.map PyData.int).zip (lets e.2.2))).map V.int))
def spMade : Sp := fun vs H Q _ => ∃ d w c N, vs = [.ref d] ∧ Dr H d w c N ∧ N ≤ 100000000 ∧ ∀ H' p e ps, Kp [d, w] H H' → Dr H' d w c (N + 20) → e ∈ lawL → PsOk ps (lets e.2.2) → MadeAt H' p e ps → Q (.ref p) H'
theorem ok_made {f f1 f2 f3 f4 f5 : Addr} {fd fd1 fd2 fd3 fd4 fd5 : FuncData} {k : Nat} (F : Fun K "_law_made" "_law_made" s_l_made f fd) (T : Bi mg)
    (F1 : Fun K "_law_pick" "_law_pick" s_l_pick f1 fd1) (b1 : Binds K fd1 ["draw", "some"] []) (g1 : mg "_law_pick" = some (.ref f1)) (G1 : FnOk P w K mg base CX0 (k + 3) f1 fd1 ["draw", "some"] (spPick K))
    (F2 : Fun K "_law_codes" "_law_codes" s_l_codes f2 fd2) (b2 : Binds K fd2 [] []) (g2 : mg "_law_codes" = some (.ref f2)) (G2 : FnOk P w K mg base CX0 (k + 1) f2 fd2 [] spCodes)
    (F3 : Fun K "_law_span" "_law_span" s_l_span f3 fd3) (b3 : Binds K fd3 ["sign"] []) (g3 : mg "_law_span" = some (.ref f3)) (G3 : FnOk P w K mg base CX0 (k + 1) f3 fd3 ["sign"] spSpan)
    (F4 : Fun K "_law_take" "_law_take" s_l_take f4 fd4) (b4 : Binds K fd4 ["draw", "many"] []) (g4 : mg "_law_take" = some (.ref f4)) (G4 : FnOk P w K mg base CX0 (k + 2) f4 fd4 ["draw", "many"] spTake)
    (F5 : Fun K "_law_cells_of" "_law_cells_of" s_l_cells_of f5 fd5) (b5 : Binds K fd5 ["code", "signs", "parts"] []) (g5 : mg "_law_cells_of" = some (.ref f5)) (G5 : FnOk P w K mg base CX0 (k + 1) f5 fd5 ["code", "signs", "parts"] (spCellsOf K)) :
    FnOk P w K mg base CX0 (k + 4) f fd ["draw"] spMade := by
  refine F.ok sc_l_made (fun vs H Q E h => ?_) (fun cdv A outer s H vs Q E hr h => ?_)
  · obtain ⟨_, _, _, _, rfl, _⟩ := h
    rfl
  · obtain ⟨d, w, c, N, rfl, hD, hN, q⟩ := h
    refine ⟨_, (pss_cons (ps_asg (pe_call G1 (hr.mono (by omega)) (by rfl) g1 F1.kp b1 .nil pass0 (pa_cons (pv 0) (pa_cons (pe_call0 G2 (hr.mono (by omega)) (by rfl) g2 F2.kp b2 .nil pass0) pa_nil))) (pg_tup (by rfl) (pgs_cons (pg_name (i := 1) sc_l_made.nd rfl (.inl rfl)) (pgs_cons (pg_name (i := 2) sc_l_made.nd rfl (.inl rfl)) (pgs_cons (pg_name (i := 3) sc_l_made.nd rfl (.inl rfl)) pgs_nil)))))
      (pss_cons (ps_set (i := 4) sc_l_made.nd rfl (.inl rfl) (pe_lst pa_nil))
      (pss_cons (ps_for PassesOwn.never rfl (pi_str (pv 3)) (pg_name (i := 5) sc_l_made.nd rfl (.inl rfl)) (pss_cons (ps_asg (pe_call G3 (hr.mono (by omega)) (by rfl) g3 F3.kp b3 .nil pass0 (pa_cons (pv 5) pa_nil)) (pg_tup (by rfl) (pgs_cons (pg_name (i := 6) sc_l_made.nd rfl (.inl rfl)) (pgs_cons (pg_name (i := 7) sc_l_made.nd rfl (.inl rfl)) pgs_nil))))
        (pss_cons (ps_set (i := 8) sc_l_made.nd rfl (.inl rfl) (pe_call G4 (hr.mono (by omega)) (by rfl) g4 F4.kp b4 .nil pass0 (pa_cons (pv 0) (pa_cons pe_int pa_nil))))
        (pss_one (ps_expr (pe_bm PySem.F.plainAttrs_list PySem.F.slot_list_append PySem.F.type_list_append mt_append (pv 4) (pa_cons (pe_ifExp (pt_cmpR op_eq (pv 8) pe_int (nomark _)) (pv 6) (pe_ifExp (pt_cmpR op_eq (pv 8) pe_int (nomark _)) (pe_op op_sub (pv 7) pe_int) (pe_op op_add (pv 6) (pe_call G4 (hr.mono (by omega)) (by rfl) g4 F4.kp b4 .nil pass0 (pa_cons (pv 0) (pa_cons (pe_op op_sub (pv 7) (pv 6)) pa_nil)))))) pa_nil)))))))
      (pss_one (ps_ret (pe_tup (pa_cons (pe_op op_catA (pe_tup (pa_cons (pv 2) pa_nil)) (pe_callTy call_tuple_of (by rfl) T.m_tuple (by decide +kernel) (pa_cons (pv 4) pa_nil))) (pa_cons (pe_call G5 (hr.mono (by omega)) (by rfl) g5 F5.kp b5 .nil pass0 (pa_cons (pv 1) (pa_cons (pv 3) (pa_cons (pv 4) pa_nil)))) pa_nil)))))))), ?_⟩
    refine ⟨.ref d, rfl, rfl, fun pc es H1 k1 n1 e1 h1 => ?_⟩
    have hD1 := hD.kp0 k1
    have hl31 : es.length = 31 := (paired_len h1).trans tables_alike.2.2
    refine ⟨d, w, c, N, pc, es, rfl, hD1, by omega, e1, hD.there n1, (fun z => by rw [z] at hl31; cases hl31), by omega, fun H2 x k2 hD2 hx => ?_⟩
    obtain ⟨j, hj⟩ := List.getElem?_of_mem hx
    have hjl : j < lawL.length := by
      have := (List.getElem?_eq_some_iff.mp hj).1
      rw [← paired_len h1]
      exact this
    obtain ⟨e, he⟩ : ∃ e, lawL[j]? = some e := ⟨_, List.getElem?_eq_getElem hjl⟩
    obtain ⟨x', hx', T0, rfl, hT0⟩ := paired_get h1 he
    cases hj.symm.trans hx'
    have hmem := List.mem_of_getElem? he
    have okE := law_ok e hmem
    obtain ⟨hl4, hw8, hlet, _, hc1, hc2, hs6⟩ := okEn_of okE
    refine ⟨T0, [.int e.1, .str e.2.1, .str e.2.2], rfl, sqT (k2.tup hT0), rfl, _, _, rfl, _, _, rfl, _, _, rfl, rfl, ?_⟩
    refine ⟨Nat.zero_le _, fun l nl => ?_⟩
    have k12 : Kp [d, w] H H2 := k1.of.trans k2
    have hlS : l ∉ [d, w] := hD2.there nl
    have nl0 : H l = none := k12.none hlS nl
    refine ⟨.str e.2.2, rfl, e.2.2, rfl, ?_⟩
    have hcps : e.2.2.cps.size = (lets e.2.2).length := (lets_len e.2.2).symm
    refine for_by (n := (lets e.2.2).length) (fun i σ H' => Kp [d, w] H H' ∧ Dr H' d w c (N + 1 + 2 * i) ∧ (∃ ps, PsOk ps ((lets e.2.2).take i) ∧ H' l = some (.lst (ps.map V.int))) ∧ ∃ y5 y6 y7 y8, σ = [some (.ref d), some (.int e.1), some (.str e.2.1), some (.str e.2.2), some (.ref l), y5, y6, y7, y8])
      ⟨k12.put2 nl, hD2.kp0 (Kp.new nl), ⟨[], ⟨rfl, rfl⟩, upd_same⟩, _, _, _, _, rfl⟩ ?_ ?_
    · rintro i σ H3 hi ⟨k3, hD3, ⟨ps, hps, el⟩, y5, y6, y7, y8, rfl⟩
      refine ⟨by show i < e.2.2.cps.size; omega, ?_⟩
      rintro v H4 ⟨rfl, ch, hc, rfl⟩
      have gz : (lets e.2.2)[i]? = some (one ch) := by
        show (e.2.2.cps.toList.map one)[i]? = some (one ch)
        rw [List.getElem?_map, Array.getElem?_toList, hc] <;> rfl
      have tk : (lets e.2.2).take (i + 1) = (lets e.2.2).take i ++ [one ch] := by rw [List.take_add_one, gz] <;> rfl
      obtain ⟨lo, hi', hsp, hlim, hle, hlt, hb1, hb2⟩ := spn_of hmem (List.mem_of_getElem? gz)
      have i4 : i < 4 := by
        rw [lets_len] at hi
        omega
      refine ⟨.str (one ch), rfl, one ch, lo, hi' + 1, rfl, hsp, fun H5 t k5 ht => ?_⟩
      refine ⟨t, [.int lo, .int (hi' + 1)], rfl, sqT ht, rfl, _, _, rfl, _, _, rfl, rfl, ?_⟩
      refine ⟨.ref d, rfl, d, w, c, N + 1 + 2 * i, 6, rfl, hD3.kp0 k5, by omega, by decide, by decide, fun H6 r k6 hD6 hr0 hr6 => ?_⟩
      have el6 : H6 l = some (.lst (ps.map V.int)) := k6 l _ (k5 l _ el (.inr List.not_mem_nil)) (.inr hlS)
      have k36 : Kp [d, w] H H6 := (k3.trans k5.of).trans k6
      have hlen : (ps.map V.int).length < sizeLine := by
        rw [List.length_map, hps.1, List.length_take]
        exact small1000 (by omega)
      refine ⟨.ref l, rfl, .inl ⟨rfl, _, sqL el6⟩, ?_⟩
      have fin : ∀ (H7 : Hp) (v : Int), Kp [d, w] H6 H7 → Dr H7 d w c (N + 1 + 2 * (i + 1)) → lo ≤ v → v ≤ hi' → H7 l = some (.lst (ps.map V.int)) ∧ Kp [d, w] H (upd H7 l (.lst (ps.map V.int ++ [.int v]))) ∧ Dr (upd H7 l (.lst (ps.map V.int ++ [.int v]))) d w c (N + 1 + 2 * (i + 1)) ∧
          (∃ ps, PsOk ps ((lets e.2.2).take (i + 1)) ∧ (upd H7 l (.lst (ps.map V.int))) l = some (.lst (ps.map V.int)) ∧ V.int v = .int v) ∧ ∃ ps', PsOk ps' ((lets e.2.2).take (i + 1)) ∧ (upd H7 l (.lst (ps.map V.int ++ [.int v]))) l = some (.lst (ps'.map V.int)) := by
        intro H7 v k7 hD7 h1 h2
        have el7 := k7 l _ el6 (.inr hlS)
        have kk : Kp [l] H7 (upd H7 l (.lst (ps.map V.int ++ [.int v]))) := Kp.refl.set (List.mem_singleton.mpr rfl) fun u eu => by rw [el7] at eu; cases eu; rfl
        refine ⟨el7, (k36.trans k7).put nl0, hD7.kp kk ?_ ?_ ?_, ⟨ps ++ [v], by rw [tk]; exact hps.snoc hlim h1 h2, upd_same, rfl⟩, ps ++ [v], ?_, ?_⟩
        · intro z; exact hlS (by rw [← List.mem_singleton.mp z]; simp)
        · intro z; exact hlS (by rw [← List.mem_singleton.mp z]; simp)
        · intro z
          obtain ⟨_, _, cs, ec, _⟩ := hD
          rw [List.mem_singleton.mp z, nl0] at ec
          cases ec
        · rw [tk]
          exact hps.snoc hlim h1 h2
        · rw [upd_same, List.map_append] <;> rfl
      refine ⟨.int r, rfl, rfl, _, rfl, ite2 (fun _ => ?_) (fun _ => ?_)⟩
      · obtain ⟨a1, a2, a3, _, a4⟩ := fin H6 lo .refl (hD6.mono (by omega)) (by omega) hle
        exact ⟨.int lo, rfl, l, _, _, rfl, rfl, a1, hlen, a2, a3, a4, _, _, _, _, rfl⟩
      · refine ⟨.int r, rfl, rfl, _, rfl, ite2 (fun _ => ?_) (fun _ => ?_)⟩
        · obtain ⟨a1, a2, a3, _, a4⟩ := fin H6 (hi' + 1 - 1) .refl (hD6.mono (by omega)) (by omega) (by omega)
          exact ⟨.int (hi' + 1), rfl, _, _, rfl, rfl, l, _, _, rfl, rfl, a1, hlen, a2, a3, a4, _, _, _, _, rfl⟩
        · refine ⟨.int lo, rfl, .ref d, rfl, .int (hi' + 1), rfl, .int lo, rfl, _, _, rfl, rfl, d, w, c, _, _, rfl, hD6, by omega, by omega, by omega, fun H7 r7 k7 hD7 h70 h71 => ?_⟩
          obtain ⟨a1, a2, a3, _, a4⟩ := fin H7 (lo + r7) k7 (hD7.mono (by omega)) (by omega) (by omega)
          exact ⟨_, _, rfl, rfl, l, _, _, rfl, rfl, a1, hlen, a2, a3, a4, _, _, _, _, rfl⟩
    · rintro σ H3 ⟨k3, hD3, ⟨ps, hps, el⟩, y5, y6, y7, y8, rfl⟩
      refine ⟨by show e.2.2.cps.size ≤ _; omega, ?_⟩
      rw [List.take_length] at hps
      have hpl : ps.length ≤ 4 := by
        rw [hps.1, lets_len]
        exact hl4
      have hll : (lets e.2.2).length ≤ 4 := by
        rw [lets_len]
        exact hl4
      refine ⟨.str e.2.1, rfl, small (by show 1 ≤ 1000; omega), fun p1 np1 => ?_⟩
      have el1 : (upd H3 p1 (.tup [.str e.2.1])) l = some (.lst (ps.map V.int)) := by rw [upd_ne (ne_of_none el np1)]; exact el
      refine ⟨.ref l, rfl, l, _, rfl, .inl ⟨sqL el1, fun p2 np2 => ?_⟩⟩
      have e1' : (upd (upd H3 p1 (.tup [.str e.2.1])) p2 (.tup (ps.map V.int))) p1 = some (.tup [.str e.2.1]) := by rw [upd_ne (ne_of_none upd_same np2), upd_same]
      have kA : Kp [] H3 (upd (upd H3 p1 (.tup [.str e.2.1])) p2 (.tup (ps.map V.int))) := (Kp.new np1).trans (Kp.new np2)
      have e2' : (upd (upd H3 p1 (.tup [.str e.2.1])) p2 (.tup (ps.map V.int))) p2 = some (.tup (ps.map V.int)) := upd_same
      generalize (upd (upd H3 p1 (.tup [.str e.2.1])) p2 (.tup (ps.map V.int))) = H4 at kA e1' e2' ⊢
      have cont : ∀ (H5 : Hp) (T1 : Addr), Kp [] H3 H5 → H5 T1 = some (.tup (.str e.2.1 :: ps.map V.int)) → tCons (tCall (spCellsOf K) [] E0 (tCons (tVar 1) (tCons (tVar 3) (tCons (tVar 4) tNil)))) tNil [some (.ref d), some (.int e.1), some (.str e.2.1), some (.str e.2.2), some (.ref l), y5, y6, y7, y8] H5 fun xs H6 =>
          (V.ref T1 :: xs).length ≤ sizeLine ∧ ∀ p, H6 p = none → Q (.ref p) (upd H6 p (.tup (V.ref T1 :: xs))) := by
        intro H5 T1 k5 eT
        refine ⟨.int e.1, rfl, .str e.2.2, rfl, .ref l, rfl, e.1, e.2.2, l, ps, rfl, .inl (sqL (k5 l _ el (.inr List.not_mem_nil))), by omega, fun H6 p k6 hp => ⟨small (by show 2 ≤ 1000; omega), fun r nr => ?_⟩⟩
        refine q _ r e ps (k3.trans ((k5.trans k6).put2 nr).of) ((hD3.mono (by omega)).kp0 ((k5.trans k6).put2 nr)) hmem hps ⟨T1, p, upd_same, ?_, ?_⟩
        · exact (k6.put2 nr).tup eT
        · exact (Kp.new (S := []) nr).tup hp
      refine ⟨p1, p2, [.str e.2.1], ps.map V.int, rfl, rfl, sqT e1', sqT e2', small (by rw [List.length_map]; show 1 + ps.length ≤ 1000; omega), (fun z => by cases z), fun _ hnil => ?_, fun _ _ r nr => ?_⟩
      · have z : ps = [] := List.map_eq_nil_iff.mp hnil
        subst z
        exact cont H4 p1 kA e1'
      · exact cont _ r (kA.put2 nr) upd_same
end
end K16
set_option Elab.async false
set_option linter.all false
set_option maxRecDepth 100000
set_option maxHeartbeats 1000000
namespace K16
open PySem PySem.Spec PyProof.Rows L2 Kb
theorem decs_alike (ns : List Int) : ∀ (l l' : List Str) (j : Nat), l.map isD = l'.map isD → l.map (fun z => decide (z = ("d" : Str))) = l'.map (fun z => decide (z = ("d" : Str))) → l.map (fun z => decide (z = ("L" : Str))) = l'.map (fun z => decide (z = ("L" : Str))) → decs ns j l = decs ns j l'
  | [], [], _, _, _, _ => rfl
  | [], _ :: _, _, h, _, _ => by cases h
  | _ :: _, [], _, h, _, _ => by cases h
  | z :: r, z' :: r', j, h1, h2, h3 => by
    rw [List.map_cons, List.map_cons, List.cons.injEq] at h1 h2 h3
    have ih := decs_alike ns r r' (j + wd z) h1.2 h2.2 h3.2
    have e1 : (z = ("D" : Str)) = (z' = ("D" : Str)) := propext (decide_eq_decide.mp h1.1)
    have e2 : (z = ("d" : Str)) = (z' = ("d" : Str)) := propext (decide_eq_decide.mp h2.1)
    have e3 : (z = ("L" : Str)) = (z' = ("L" : Str)) := propext (decide_eq_decide.mp h3.1)
    have ew : wd z = wd z' := by
      unfold wd
      rw [h1.1]
    show decP z _ _ :: decs ns (j + wd z) r = decP z' _ _ :: decs ns (j + wd z') r'
    rw [ih, ew]
    unfold decP
    simp only [e1, e2, e3]
theorem partsOk_alike : ∀ (ds : List PyData) (l l' : List Str), l.map lim = l'.map lim → partsOk ds l = partsOk ds l'
  | ds, [], [], _ => rfl
  | _, [], _ :: _, h => by cases h
  | _, _ :: _, [], h => by cases h
  | [], _ :: _, _ :: _, _ => rfl
  | d :: ds, z :: r, z' :: r', h => by
    rw [List.map_cons, List.map_cons, List.cons.injEq] at h
    have ih := partsOk_alike ds r r' h.2
    show (partOk (d, z) && partsOk ds r) = (partOk (d, z') && partsOk ds r')
    have : partOk (d, z) = partOk (d, z') := by
      unfold partOk
      rw [h.1]
    rw [ih, this]
/-- entry i of both tables -/
theorem alike_at {i : Nat} {e' : En} (h : lawL[i]? = some e') : ∃ e, formL[i]? = some e ∧ e.1 = e'.1 ∧ e.2.1 = e'.2.1 ∧ (lets e.2.2).map lim = (lets e'.2.2).map lim ∧ (lets e.2.2).map isD = (lets e'.2.2).map isD ∧ size e.2.2 = size e'.2.2 ∧
    (∀ ns j, decs ns j (lets e.2.2) = decs ns j (lets e'.2.2)) ∧ (∀ ds, partsOk ds (lets e.2.2) = partsOk ds (lets e'.2.2)) ∧ e.2.2.length = e'.2.2.length := by
  have hi : i < lawL.length := (List.getElem?_eq_some_iff.mp h).1
  have hi2 : i < formL.length := by rw [tables_alike.2.1]; rw [tables_alike.2.2] at hi; exact hi
  obtain ⟨e, he⟩ : ∃ e, formL[i]? = some e := ⟨_, List.getElem?_eq_getElem hi2⟩
  have hz : (formL.zip lawL)[i]? = some (e, e') := by
    rw [List.getElem?_zip_eq_some]
    exact ⟨he, h⟩
  have ha := List.all_eq_true.mp tables_alike.1 _ (List.mem_of_getElem? hz)
  unfold alikeEn at ha
  simp only [Bool.and_eq_true, decide_eq_true_eq] at ha
  obtain ⟨⟨⟨⟨⟨⟨h1, h2⟩, h3⟩, h4⟩, h5⟩, h6⟩, h7⟩ := ha
  refine ⟨e, he, h1, h2, h3, h4, h5, fun ns j => decs_alike ns _ _ j h4 h6 h7, fun ds => partsOk_alike ds _ _ h3, ?_⟩
  have := congrArg List.length h4
  rw [List.length_map, List.length_map, lets_len, lets_len] at this
  exact this
section
variable {P : Program} {w : World} {K : PySem.W.Frag} {mg : Str → Option Value} {base : Heap}
def missB (ns : List Int) (n : Nat) (e : En) : Bool := decide (e.1 = ns.getD n 0) && decide ((n : Int) + size e.2.2 ≤ ns.length)
theorem sense_none {ns : List Int} {n : Nat} (h : formL.all (fun e => !missB ns n e) = true) : senseOf ns n = none := by
  unfold senseOf
  cases e1 : formL.find? (fun e => decide (e.1 = ns.getD n 0)) with
  | none => rfl
  | some e =>
    dsimp only
    have hm := List.mem_of_find?_eq_some e1
    have h2 := List.all_eq_true.mp h e hm
    have h3 : decide (e.1 = ns.getD n 0) = true := List.find?_some (p := fun e : En => decide (e.1 = ns.getD n 0)) e1
    unfold missB at h2
    rw [h3] at h2
    have h4 : ¬ ((n : Int) + size e.2.2 ≤ ns.length) := by simpa using h2
    rw [if_pos (by omega)]
theorem sense_some {ns : List Int} {n : Nat} {e : En} (hm : e ∈ formL) (h1 : e.1 = ns.getD n 0) (h2 : (n : Int) + size e.2.2 ≤ ns.length) :
    senseOf ns n = if partsOk ((decs ns (n + 1) (lets e.2.2)).map .int) (lets e.2.2) then some (e.2.1, decs ns (n + 1) (lets e.2.2), size e.2.2) else none := by
  unfold senseOf
  have := find_code codes_nd hm
  rw [h1] at this
  rw [this]
  dsimp only
  rw [if_neg (by omega)]
theorem partsOk_snoc {ns : List Int} {ls : List Str} {v : Int} {z : Str} (hl : ns.length = ls.length) : partsOk ((ns ++ [v]).map .int) (ls ++ [z]) = (partsOk (ns.map .int) ls && partOk (.int v, z)) := by
  unfold partsOk
  rw [List.map_append, List.zip_append (by rw [List.length_map, hl]), List.all_append]
  show (_ && (partOk (.int v, z) && true)) = _
  rw [Bool.and_true]
theorem partsOk_prefix {ds es : List PyData} {ls ms : List Str} (hl : ds.length = ls.length) (h : partsOk ds ls = false) : partsOk (ds ++ es) (ls ++ ms) = false := by
  unfold partsOk at h ⊢
  rw [List.zip_append hl, List.all_append, h] <;> rfl
theorem decs_app (ns : List Int) : ∀ (l m : List Str) (j : Nat), decs ns j (l ++ m) = decs ns j l ++ decs ns (j + wds l) m
  | [], m, j => rfl
  | z :: r, m, j => by
    show decP z _ _ :: decs ns (j + wd z) (r ++ m) = decP z _ _ :: (decs ns (j + wd z) r ++ decs ns (j + wds (z :: r)) m)
    rw [decs_app ns r m (j + wd z)]
    have e : j + wd z + wds r = j + wds (z :: r) := by
      show j + wd z + wds r = j + (wd z + wds r)
      omega
    rw [e]
end
end K16
set_option Elab.async false
set_option linter.all false
set_option maxRecDepth 100000
set_option maxHeartbeats 1000000
namespace K16
open PySem PySem.Spec PyProof.Rows L2 Kb
section
variable {P : Program} {w : World} {K : PySem.W.Frag} {mg : Str → Option Value} {base : Heap}
theorem lenE {H : Hp} {a : Addr} {xs : List V} {n : Nat} (h : SqE K H a xs) (hl : xs.length = n) : LenV K (.ref a) H n := by
  rcases h with h | h
  · exact .inl ⟨_, h, hl.symm⟩
  · exact .inr ⟨_, h, hl.symm⟩
def tTailS (K : PySem.W.Frag) : TS := tSeq (tAsg (tCall spSpan [] E0 (tCons (tVar 7) tNil)) (gTup K 2 (gCons (gName 9) (gCons (gName 10) gNil))))
  (tSeq (tIfS (tNot (tTest (tChain (rI0 fun i j => .bl (decide (i ≤ j))) (rI0 fun i j => .bl (decide (i < j))) (tVar 9) (tVar 8) (tVar 10)))) (tRet (tC .non)) tNext)
    (tSeq (tDrop (tBM K "list" rAppend (tVar 5) (tCons (tVar 8) tNil))) (tAsg (tOp (rI0 fun i j => .int (i + j)) (tVar 6) (tC (.int 1))) (gName 6))))
theorem tail_ok {D : Ends} {z : Str} {lo hi v : Int} {pl2 : Int} {l : Addr} {xs : List V} {a0 a1 a2 a3 a4 y9 y10 : Option V} {H : Hp} (hsp : spn z = some (lo, hi + 1)) (el : H l = some (.lst xs)) (hl : xs.length < sizeLine)
    (bad : ¬ (lo ≤ v ∧ v ≤ hi) → ∀ H', Kp [] H H' → D.rt .non H')
    (good : lo ≤ v → v ≤ hi → ∀ H', Kp [] H H' → D.nx [a0, a1, a2, a3, a4, some (.ref l), some (.int (pl2 + 1)), some (.str z), some (.int v), some (.int lo), some (.int (hi + 1))] (upd H' l (.lst (xs ++ [.int v])))) :
    tTailS K D [a0, a1, a2, a3, a4, some (.ref l), some (.int pl2), some (.str z), some (.int v), y9, y10] H := by
  refine ⟨.str z, rfl, z, lo, hi + 1, rfl, hsp, fun H6 t k6 ht => ?_⟩
  refine ⟨t, [.int lo, .int (hi + 1)], rfl, sqT ht, rfl, _, _, rfl, _, _, rfl, rfl, ?_⟩
  refine ⟨.int lo, rfl, .int v, rfl, lo, v, rfl, rfl, _, rfl, ?_⟩
  by_cases h1 : lo ≤ v
  · rw [decide_eq_true h1]
    refine ite2 (fun _ => ?_) fun y => absurd rfl y
    refine ⟨.int (hi + 1), rfl, v, hi + 1, rfl, rfl, _, rfl, ?_⟩
    by_cases h2 : v < hi + 1
    · rw [decide_eq_true h2]
      refine ite2 (fun y => Bool.noConfusion y) fun _ => ?_
      have el6 := k6 l _ el (.inr List.not_mem_nil)
      refine ⟨.ref l, rfl, .inl ⟨rfl, _, sqL el6⟩, .int v, rfl, l, _, _, rfl, rfl, el6, hl, ?_⟩
      exact ⟨_, rfl, _, _, rfl, rfl, good h1 (by omega) H6 k6⟩
    · rw [decide_eq_false h2]
      refine ite2 (fun _ => ?_) fun y => absurd rfl y
      exact bad (fun y => h2 (by omega)) H6 k6
  · rw [decide_eq_false h1]
    refine ite2 (fun y => Bool.noConfusion y) fun _ => ⟨_, rfl, ?_⟩
    refine ite2 (fun _ => ?_) fun y => absurd rfl y
    exact bad (fun y => h1 y.1) H6 k6
theorem ok_l_sense {f f1 f2 f3 : Addr} {fd fd1 fd2 fd3 : FuncData} {k : Nat} (F : Fun K "_law_sense" "_law_sense" s_l_sense f fd) (T : Bi mg)
    (F1 : Fun K "_law_codes" "_law_codes" s_l_codes f1 fd1) (b1 : Binds K fd1 [] []) (g1 : mg "_law_codes" = some (.ref f1)) (G1 : FnOk P w K mg base CX0 (k + 1) f1 fd1 [] spCodes)
    (F2 : Fun K "_law_many" "_law_many" s_l_many f2 fd2) (b2 : Binds K fd2 ["signs"] []) (g2 : mg "_law_many" = some (.ref f2)) (G2 : FnOk P w K mg base CX0 (k + 1) f2 fd2 ["signs"] spMany)
    (F3 : Fun K "_law_span" "_law_span" s_l_span f3 fd3) (b3 : Binds K fd3 ["sign"] []) (g3 : mg "_law_span" = some (.ref f3)) (G3 : FnOk P w K mg base CX0 (k + 1) f3 fd3 ["sign"] spSpan) :
    FnOk P w K mg base CX0 (k + 2) f fd ["cells", "at"] (spSenseIn K) := by
  refine F.ok sc_l_sense (fun vs H Q E h => ?_) (fun cdv A outer s H vs Q E hr h => ?_)
  · obtain ⟨_, _, _, rfl, _⟩ := h
    rfl
  · obtain ⟨a, n, ns, rfl, hS, hn, hlen, hC, q⟩ := h
    refine ⟨_, (pss_cons (ps_for PassesOwn.never rfl (pi_list (pe_call0 G1 hr (by rfl) g1 F1.kp b1 .nil pass0)) (pg_tup (by rfl) (pgs_cons (pg_name (i := 2) sc_l_sense.nd rfl (.inl rfl)) (pgs_cons (pg_name (i := 3) sc_l_sense.nd rfl (.inl rfl)) (pgs_cons (pg_name (i := 4) sc_l_sense.nd rfl (.inl rfl)) pgs_nil)))) (pss_one (ps_if (PW.pt (pw_and (pt_cmpR op_eq (pv 2) (pe_ix ix_seq (pv 0) (pv 1) (fun _ _ => rfl)) (nomark _)) (pw_and1 (pt_cmpR op_le (pe_op op_add (pv 1) (pe_call G2 hr (by rfl) g2 F2.kp b2 .nil pass0 (pa_cons (pv 4) pa_nil))) (pe_callB call_len (by rfl) T.m_len (by decide +kernel) (pa_cons (pv 0) pa_nil)) (nomark _))))) (pss_cons (ps_par (i := 5) (j := 6) (by rfl) sc_l_sense.nd rfl rfl (by decide) rfl rfl (pa_cons (pe_lst pa_nil) (pa_cons (pe_op op_add (pv 1) pe_int) pa_nil)) (by rfl))
          (pss_cons (ps_for PassesOwn.never rfl (pi_str (pv 4)) (pg_name (i := 7) sc_l_sense.nd rfl (.inl rfl)) (pss_cons (ps_set (i := 8) sc_l_sense.nd rfl (.inl rfl) (pe_ix ix_seq (pv 0) (pv 6) (fun _ _ => rfl)))
            (pss_cons (ps_if (pt_cmpR op_eq (pv 7) pe_str (nomark _)) (pss_cons (ps_par (i := 8) (j := 6) (by rfl) sc_l_sense.nd rfl rfl (by decide) rfl rfl (pa_cons (pe_op op_add (pe_op op_mul (pe_ix ix_seq (pv 0) (pv 6) (fun _ _ => rfl)) pe_int) (pe_ix ix_seq (pv 0) (pe_op op_add (pv 6) pe_int) (fun _ _ => rfl))) (pa_cons (pe_op op_add (pv 6) pe_int) pa_nil)) (by rfl))
              (pss_one (ps_set (i := 8) sc_l_sense.nd rfl (.inl rfl) (pe_ifExp (pt_cmpR op_gt (pv 8) pe_int (nomark _)) (pe_op op_sub (pv 8) pe_int) (pv 8))))) (pss_one (ps_if (pt_cmpR op_eq (pv 7) pe_str (nomark _)) (pss_one (ps_set (i := 8) sc_l_sense.nd rfl (.inl rfl) (pe_ifExp (pt_cmpR op_gt (pv 8) pe_int (nomark _)) (pe_op op_sub (pv 8) pe_int) (pv 8)))) (pss_one (ps_if (pt_cmpR op_eq (pv 7) pe_str (nomark _)) (pss_one (ps_set (i := 8) sc_l_sense.nd rfl (.inl rfl) (pe_ifExp (pt_cmpR op_eq (pv 8) pe_int (nomark _)) pe_int (pv 8)))) pss_nil)))))
            (pss_cons (ps_asg (pe_call G3 hr (by rfl) g3 F3.kp b3 .nil pass0 (pa_cons (pv 7) pa_nil)) (pg_tup (by rfl) (pgs_cons (pg_name (i := 9) sc_l_sense.nd rfl (.inl rfl)) (pgs_cons (pg_name (i := 10) sc_l_sense.nd rfl (.inl rfl)) pgs_nil))))
            (pss_cons (ps_if (pt_not (pt_chain op_le op_lt (pv 9) (pv 8) (pv 10))) (pss_one (ps_ret pe_non)) pss_nil)
            (pss_cons (ps_expr (pe_bm PySem.F.plainAttrs_list PySem.F.slot_list_append PySem.F.type_list_append mt_append (pv 5) (pa_cons (pv 8) pa_nil)))
            (pss_one (ps_set (i := 6) sc_l_sense.nd rfl (.inl rfl) (pe_op op_add (pv 6) pe_int)))))))))
          (pss_one (ps_ret (pe_tup (pa_cons (pe_op op_catA (pe_tup (pa_cons (pv 3) pa_nil)) (pe_callTy call_tuple_of (by rfl) T.m_tuple (by decide +kernel) (pa_cons (pv 5) pa_nil))) (pa_cons (pe_call G2 hr (by rfl) g2 F2.kp b2 .nil pass0 (pa_cons (pv 4) pa_nil)) pa_nil))))))) pss_nil)))
      (pss_one (ps_ret pe_non))), ?_⟩
    have gn : ns[n]? = some ns[n] := List.getElem?_eq_getElem hn
    have gD : ns.getD n 0 = ns[n] := by rw [List.getD_eq_getElem?_getD, gn] <;> rfl
    have gV : ∀ {j : Nat} {x : Int}, ns[j]? = some x → (ns.map V.int)[j]? = some (.int x) := fun h => by rw [List.getElem?_map, h] <;> rfl
    have lenV : (ns.map V.int).length = ns.length := List.length_map _
    refine ⟨rfl, fun pc es H1 k1 n1 e1 h1 => ⟨pc, rfl, ⟨_, sqL e1⟩, ?_⟩⟩
    have hl31 : es.length = 31 := (paired_len h1).trans tables_alike.2.2
    refine for_list (K := K) (a := pc) (xs := es) (fun i σ H' => Kp [] H H' ∧ Kp [] H1 H' ∧ (formL.take i).all (fun e => !missB ns n e) = true ∧ ∃ y2 y3 y4 y5 y6 y7 y8 y9 y10, σ = [some (.ref a), some (.int n), y2, y3, y4, y5, y6, y7, y8, y9, y10])
      ⟨k1, .refl, rfl, _, _, _, _, _, _, _, _, _, rfl⟩ (fun i σ H' _ ⟨_, k, _⟩ => sqL (k _ _ e1 (.inr List.not_mem_nil))) ?_ ?_
    · rintro i x σ H2 hi ⟨k2, k12, hall, y2, y3, y4, y5, y6, y7, y8, y9, y10, rfl⟩
      have hil : i < lawL.length := by
        rw [tables_alike.2.2]
        have := (List.getElem?_eq_some_iff.mp hi).1
        omega
      obtain ⟨e', he'⟩ : ∃ e', lawL[i]? = some e' := ⟨_, List.getElem?_eq_getElem hil⟩
      obtain ⟨x', hx', T0, rfl, hT0⟩ := paired_get h1 he'
      cases hi.symm.trans hx'
      obtain ⟨e, he, a1, a2, a3, a4, a5, a6, a7, a8⟩ := alike_at he'
      have hmem' := List.mem_of_getElem? he'
      have hmem := List.mem_of_getElem? he
      have okE := law_ok e' hmem'
      obtain ⟨hl4, hw8, hlet, hsz, hc1, hc2, hs6⟩ := okEn_of okE
      have hszw := size_wds okE
      refine ⟨T0, [.int e'.1, .str e'.2.1, .str e'.2.2], rfl, sqT (k12.tup hT0), rfl, _, _, rfl, _, _, rfl, _, _, rfl, rfl, ?_⟩
      refine ⟨.int e'.1, rfl, .ref a, rfl, .int n, rfl, ixE (hS.kp k2) (gV gn) ⟨rfl, _, rfl, ?_⟩⟩
      have miss : missB ns n e = false → ∀ H3, Kp [] H2 H3 → ∀ y5 y6 y7 y8 y9 y10, Kp [] H H3 ∧ Kp [] H1 H3 ∧ (formL.take (i + 1)).all (fun e => !missB ns n e) = true ∧ ∃ z2 z3 z4 z5 z6 z7 z8 z9 z10, [some (V.ref a), some (.int n), some (.int e'.1), some (.str e'.2.1), some (.str e'.2.2), y5, y6, y7, y8, y9, y10] = [some (.ref a), some (.int n), z2, z3, z4, z5, z6, z7, z8, z9, z10] := fun hm H3 k3 y5 y6 y7 y8 y9 y10 =>
        ⟨k2.trans k3, k12.trans k3, by rw [all_take_succ hall he, hm] <;> rfl, _, _, _, _, _, _, _, _, _, rfl⟩
      by_cases ec : e'.1 = ns[n]
      · rw [show decide (V.int e'.1 = V.int ns[n]) = true from decide_eq_true (congrArg V.int ec)]
        refine ite2 (fun _ => ?_) fun y => absurd rfl y
        refine ⟨.int n, rfl, .str e'.2.2, rfl, e'.2.2, rfl, by omega, fun H3 k3 => ⟨n, _, rfl, rfl, .ref a, rfl, .ref a, ns.length, rfl, lenE (hS.kp (k2.trans k3)) lenV, _, _, rfl, rfl, _, rfl, ?_⟩⟩
        rw [← hsz]
        by_cases el : (n : Int) + size e'.2.2 ≤ ns.length
        · rw [decide_eq_true el]
          refine ite2 (fun _ => ?_) fun y => absurd rfl y
          refine ⟨Nat.zero_le _, fun l nl => ⟨.int n, rfl, n, 1, rfl, rfl, .ref l, .int (n + 1), rfl, ?_⟩⟩
          have k23 : Kp [] H H3 := k2.trans k3
          have nl0 : H l = none := k23.none List.not_mem_nil nl
          have hso := sense_some hmem (by rw [gD, a1, ec]) (by rw [a5]; exact el)
          rw [a6, a7, a2, a5] at hso
          have hcps : e'.2.2.cps.size = (lets e'.2.2).length := (lets_len e'.2.2).symm
          have hll : (lets e'.2.2).length ≤ 4 := by
            rw [lets_len]
            exact hl4
          refine ⟨.str e'.2.2, rfl, e'.2.2, rfl, ?_⟩
          refine for_by (n := (lets e'.2.2).length) (fun j σ H' => Kp [] H H' ∧ H' l = some (.lst ((decs ns (n + 1) ((lets e'.2.2).take j)).map V.int)) ∧ partsOk ((decs ns (n + 1) ((lets e'.2.2).take j)).map .int) ((lets e'.2.2).take j) = true ∧
              ∃ y7 y8 y9 y10, σ = [some (.ref a), some (.int n), some (.int e'.1), some (.str e'.2.1), some (.str e'.2.2), some (.ref l), some (.int ((n + 1 + wds ((lets e'.2.2).take j) : Nat) : Int)), y7, y8, y9, y10])
            ⟨k23.put2 nl, upd_same, rfl, _, _, _, _, rfl⟩ ?_ ?_
          · rintro j σ H4 hj ⟨k4, el4, hpo, y7, y8, y9, y10, rfl⟩
            refine ⟨by show j < e'.2.2.cps.size; omega, ?_⟩
            rintro v H5 ⟨rfl, ch, hc, rfl⟩
            have gz : (lets e'.2.2)[j]? = some (one ch) := by
              show (e'.2.2.cps.toList.map one)[j]? = some (one ch)
              rw [List.getElem?_map, Array.getElem?_toList, hc] <;> rfl
            have tk : (lets e'.2.2).take (j + 1) = (lets e'.2.2).take j ++ [one ch] := by rw [List.take_add_one, gz] <;> rfl
            have w1 : 1 ≤ wd (one ch) := by
              unfold wd
              split <;> omega
            have wle : wds ((lets e'.2.2).take j) + wd (one ch) ≤ wds (lets e'.2.2) := by
              have z := wds_app ((lets e'.2.2).take (j + 1)) ((lets e'.2.2).drop (j + 1))
              rw [List.take_append_drop, tk, wds_app] at z
              have z2 : wds [one ch] = wd (one ch) := Nat.add_zero _
              omega
            obtain ⟨pl, hpl⟩ : ∃ pl, pl = n + 1 + wds ((lets e'.2.2).take j) := ⟨_, rfl⟩
            rw [← hpl]
            have hpn : pl < ns.length := by omega
            obtain ⟨x, hx⟩ : ∃ x, ns[pl]? = some x := ⟨_, List.getElem?_eq_getElem hpn⟩
            have xD : ns.getD pl 0 = x := by rw [List.getD_eq_getElem?_getD, hx] <;> rfl
            have xC := hC x (List.mem_of_getElem? hx)
            obtain ⟨lo, hi', hsp, hlim, hle, hlt, hb1, hb2⟩ := spn_of hmem' (List.mem_of_getElem? gz)
            have yC : 0 ≤ ns.getD (pl + 1) 0 ∧ ns.getD (pl + 1) 0 ≤ 63 := by
              rw [List.getD_eq_getElem?_getD]
              cases hy : ns[pl + 1]? with
              | none => exact ⟨by decide, by decide⟩
              | some y => exact hC y (List.mem_of_getElem? hy)
            have hde : decP (one ch) x (ns.getD (pl + 1) 0) = decL (one ch) x (ns.getD (pl + 1) 0) := dec_eq xC.1 xC.2 yC.1 yC.2
            have dsn : decs ns (n + 1) ((lets e'.2.2).take (j + 1)) = decs ns (n + 1) ((lets e'.2.2).take j) ++ [decL (one ch) x (ns.getD (pl + 1) 0)] := by
              rw [tk, decs_snoc, ← hpl, xD, hde]
            have pok : partsOk ((decs ns (n + 1) ((lets e'.2.2).take (j + 1))).map .int) ((lets e'.2.2).take (j + 1)) = partOk (.int (decL (one ch) x (ns.getD (pl + 1) 0)), one ch) := by
              rw [dsn, tk, partsOk_snoc (decs_len ns _ _), hpo, Bool.true_and]
            have hlt4 : ((decs ns (n + 1) ((lets e'.2.2).take j)).map V.int).length < sizeLine := by
              rw [List.length_map, decs_len, List.length_take]
              exact small1000 (by omega)
            obtain ⟨dv, hdv⟩ : ∃ dv, dv = decL (one ch) x (ns.getD (pl + 1) 0) := ⟨_, rfl⟩
            rw [← hdv] at dsn pok
            have bad : ∀ v, v = dv → ¬ (lo ≤ v ∧ v ≤ hi') → ∀ H', Kp [] H5 H' → Q .non H' := fun v ev hv H' k' => by
              subst ev
              refine q _ _ (k4.trans k') fun S => ?_
              have : partsOk ((decs ns (n + 1) ((lets e'.2.2).take (j + 1))).map .int) ((lets e'.2.2).take (j + 1)) = false := by
                rw [pok]
                unfold partOk
                rw [hlim]
                show (decide (lo ≤ v) && decide (v ≤ hi')) = false
                rw [Bool.and_eq_false_iff]
                by_cases hh : lo ≤ v
                · exact .inr (decide_eq_false fun y => hv ⟨hh, y⟩)
                · exact .inl (decide_eq_false hh)
              have h3 := partsOk_prefix (es := (decs ns (n + 1 + wds ((lets e'.2.2).take (j + 1))) ((lets e'.2.2).drop (j + 1))).map PyData.int) (ms := (lets e'.2.2).drop (j + 1)) (by rw [List.length_map, decs_len]) this
              rw [← List.map_append, ← decs_app, List.take_append_drop] at h3
              rw [hso, h3]
              exact .non
            have good : ∀ v (pl2 : Int), v = dv → pl2 + 1 = ((pl + wd (one ch) : Nat) : Int) → lo ≤ v → v ≤ hi' → ∀ H', Kp [] H5 H' → ∀ y9 y10, Kp [] H (upd H' l (.lst ((decs ns (n + 1) ((lets e'.2.2).take j)).map V.int ++ [.int v]))) ∧ (upd H' l (.lst ((decs ns (n + 1) ((lets e'.2.2).take j)).map V.int ++ [.int v]))) l = some (.lst ((decs ns (n + 1) ((lets e'.2.2).take (j + 1))).map V.int)) ∧
                partsOk ((decs ns (n + 1) ((lets e'.2.2).take (j + 1))).map .int) ((lets e'.2.2).take (j + 1)) = true ∧ ∃ z7 z8 z9 z10, [some (V.ref a), some (.int n), some (.int e'.1), some (.str e'.2.1), some (.str e'.2.2), some (.ref l), some (.int (pl2 + 1)), some (.str (one ch)), some (.int v), y9, y10] = [some (.ref a), some (.int n), some (.int e'.1), some (.str e'.2.1), some (.str e'.2.2), some (.ref l), some (.int ((n + 1 + wds ((lets e'.2.2).take (j + 1)) : Nat) : Int)), z7, z8, z9, z10] := fun v pl2 ev hp h1 h2 H' k' y9 y10 => by
              subst ev
              refine ⟨(k4.trans k').put nl0, ?_, ?_, some (.str (one ch)), some (.int v), y9, y10, ?_⟩
              · rw [upd_same, dsn, List.map_append] <;> rfl
              · rw [pok]
                unfold partOk
                rw [hlim]
                show (decide (lo ≤ v) && decide (v ≤ hi')) = true
                rw [decide_eq_true h1, decide_eq_true h2] <;> rfl
              · have e9 : n + 1 + wds ((lets e'.2.2).take (j + 1)) = pl + wd (one ch) := by
                  rw [tk, wds_app, hpl]
                  have z2 : wds [one ch] = wd (one ch) := Nat.add_zero _
                  omega
                rw [hp, e9]
            refine ⟨.ref a, rfl, .int pl, rfl, ixE (hS.kp k4) (gV hx) ?_⟩
            refine ⟨.str (one ch), rfl, rfl, _, rfl, ite2 (fun ez => ?_) (fun ez => ?_)⟩
            · have ezD : one ch = ("D" : Str) := V.str.inj (of_decide_eq_true ez)
              have w2 : wd (one ch) = 2 := by
                unfold wd isD
                rw [decide_eq_true ezD] <;> rfl
              obtain ⟨y, hy⟩ : ∃ y, ns[pl + 1]? = some y := ⟨_, List.getElem?_eq_getElem (by omega)⟩
              have yD : ns.getD (pl + 1) 0 = y := by rw [List.getD_eq_getElem?_getD, hy] <;> rfl
              have hd2 : dv = if x * 64 + y > 2047 then x * 64 + y - 4096 else x * 64 + y := by
                rw [hdv, yD]
                unfold decL
                rw [if_pos ezD]
              refine ⟨.ref a, rfl, .int pl, rfl, ixE (hS.kp k4) (gV hx) ⟨x, 64, rfl, rfl, .inr (by decide), .ref a, rfl, .int pl, rfl, pl, 1, rfl, rfl, ixE (n := pl + 1) (hS.kp k4) (gV hy) ⟨_, _, rfl, rfl, .int pl, rfl, pl, 1, rfl, rfl, _, _, rfl, ?_⟩⟩⟩
              refine ⟨.int (x * 64 + y), rfl, _, _, rfl, rfl, _, rfl, ite2 (fun e2 => ?_) (fun e2 => ?_)⟩
              · refine ⟨_, rfl, _, _, rfl, rfl, ?_⟩
                have ev : x * 64 + y - 4096 = dv := by rw [hd2, if_pos (of_decide_eq_true e2)]
                exact tail_ok (K := K) (pl2 := (pl : Int) + 1) hsp el4 hlt4 (bad _ ev) fun h1 h2 H' k' => good _ _ ev (by rw [w2]; rfl) h1 h2 H' k' _ _
              · have ev : x * 64 + y = dv := by rw [hd2, if_neg (fun y => e2 (decide_eq_true y))]
                refine ⟨_, rfl, ?_⟩
                exact tail_ok (K := K) (pl2 := (pl : Int) + 1) hsp el4 hlt4 (bad _ ev) fun h1 h2 H' k' => good _ _ ev (by rw [w2]; rfl) h1 h2 H' k' _ _
            · have ezD : ¬ one ch = ("D" : Str) := fun y => ez (decide_eq_true (congrArg V.str y))
              have w2 : wd (one ch) = 1 := by
                unfold wd isD
                rw [decide_eq_false ezD] <;> rfl
              have hp1 : (pl : Int) + 1 = ((pl + wd (one ch) : Nat) : Int) := by rw [w2]; rfl
              unfold decL at hdv
              rw [if_neg ezD] at hdv
              refine ⟨.str (one ch), rfl, rfl, _, rfl, ite2 (fun ez2 => ?_) (fun ez2 => ?_)⟩
              · rw [if_pos (V.str.inj (of_decide_eq_true ez2))] at hdv
                refine ⟨.int x, rfl, _, _, rfl, rfl, _, rfl, ite2 (fun e2 => ?_) (fun e2 => ?_)⟩
                · refine ⟨_, rfl, _, _, rfl, rfl, ?_⟩
                  have ev : x - 64 = dv := by rw [hdv, if_pos (of_decide_eq_true e2)]
                  exact tail_ok (K := K) (pl2 := pl) hsp el4 hlt4 (bad _ ev) fun h1 h2 H' k' => good _ _ ev hp1 h1 h2 H' k' _ _
                · refine ⟨_, rfl, ?_⟩
                  have ev : x = dv := by rw [hdv, if_neg (fun y => e2 (decide_eq_true y))]
                  exact tail_ok (K := K) (pl2 := pl) hsp el4 hlt4 (bad _ ev) fun h1 h2 H' k' => good _ _ ev hp1 h1 h2 H' k' _ _
              · rw [if_neg (fun y => ez2 (decide_eq_true (congrArg V.str y)))] at hdv
                refine ⟨.str (one ch), rfl, rfl, _, rfl, ite2 (fun ez3 => ?_) (fun ez3 => ?_)⟩
                · rw [if_pos (V.str.inj (of_decide_eq_true ez3))] at hdv
                  refine ⟨.int x, rfl, rfl, _, rfl, ite2 (fun e2 => ?_) (fun e2 => ?_)⟩
                  · have ev : (64 : Int) = dv := by rw [hdv, if_pos (V.int.inj (of_decide_eq_true e2))]
                    exact tail_ok (K := K) (pl2 := pl) hsp el4 hlt4 (bad _ ev) fun h1 h2 H' k' => good _ _ ev hp1 h1 h2 H' k' _ _
                  · refine ⟨_, rfl, ?_⟩
                    have ev : x = dv := by rw [hdv, if_neg (fun y => e2 (decide_eq_true (congrArg V.int y)))]
                    exact tail_ok (K := K) (pl2 := pl) hsp el4 hlt4 (bad _ ev) fun h1 h2 H' k' => good _ _ ev hp1 h1 h2 H' k' _ _
                · rw [if_neg (fun y => ez3 (decide_eq_true (congrArg V.str y)))] at hdv
                  exact tail_ok (K := K) (pl2 := pl) hsp el4 hlt4 (bad _ hdv.symm) fun h1 h2 H' k' => good _ _ hdv.symm hp1 h1 h2 H' k' _ _
          · rintro σ H4 ⟨k4, el4, hpo, y7, y8, y9, y10, rfl⟩
            refine ⟨by show e'.2.2.cps.size ≤ _; omega, ?_⟩
            rw [List.take_length] at el4 hpo
            have hpl : (decs ns (n + 1) (lets e'.2.2)).length ≤ 4 := by
              rw [decs_len]
              exact hll
            rw [hpo, if_pos rfl] at hso
            have cont : ∀ (H5 : Hp) (T1 : Addr), Kp [] H4 H5 → H5 T1 = some (.tup (.str e'.2.1 :: (decs ns (n + 1) (lets e'.2.2)).map V.int)) → tCons (tCall spMany [] E0 (tCons (tVar 4) tNil)) tNil
                ([some (.ref a), some (.int n), some (.int e'.1), some (.str e'.2.1), some (.str e'.2.2), some (.ref l), some (.int ((n + 1 + wds ((lets e'.2.2).take (lets e'.2.2).length) : Nat) : Int)), y7, y8, y9, y10] : L2.St) H5 fun xs H6 => (V.ref T1 :: xs).length ≤ sizeLine ∧ ∀ p, H6 p = none → Q (.ref p) (upd H6 p (.tup (V.ref T1 :: xs))) := by
              intro H5 T1 k5 eT
              refine ⟨.str e'.2.2, rfl, e'.2.2, rfl, by omega, fun H6 k6 => ⟨small (by show 2 ≤ 1000; omega), fun r nr => ?_⟩⟩
              refine q _ _ (k4.trans ((k5.trans k6).put2 nr)) fun S => ?_
              rw [hso, ← hsz]
              exact .tup upd_same (.cons (.tup ((k6.put2 nr).tup eT) (.cons (.str _) (DaL.ints _))) (.cons (.int _) .nil))
            refine ⟨.str e'.2.1, rfl, small (by show 1 ≤ 1000; omega), fun p1 np1 => ?_⟩
            have el5 : (upd H4 p1 (.tup [.str e'.2.1])) l = some (.lst ((decs ns (n + 1) (lets e'.2.2)).map V.int)) := by rw [upd_ne (ne_of_none el4 np1)]; exact el4
            refine ⟨.ref l, rfl, l, _, rfl, .inl ⟨sqL el5, fun p2 np2 => ?_⟩⟩
            have e1' : (upd (upd H4 p1 (.tup [.str e'.2.1])) p2 (.tup ((decs ns (n + 1) (lets e'.2.2)).map V.int))) p1 = some (.tup [.str e'.2.1]) := by rw [upd_ne (ne_of_none upd_same np2), upd_same]
            have kA : Kp [] H4 (upd (upd H4 p1 (.tup [.str e'.2.1])) p2 (.tup ((decs ns (n + 1) (lets e'.2.2)).map V.int))) := (Kp.new np1).trans (Kp.new np2)
            refine ⟨p1, p2, [.str e'.2.1], _, rfl, rfl, sqT e1', sqT upd_same, small (by rw [List.length_map]; show 1 + (decs ns (n + 1) (lets e'.2.2)).length ≤ 1000; omega), (fun z => by cases z), fun _ hnil => ?_, fun _ _ r nr => ?_⟩
            · have z := List.map_eq_nil_iff.mp hnil
              refine cont _ p1 kA ?_
              rw [z] at e1' ⊢
              exact e1'
            · exact cont _ r (kA.put2 nr) upd_same
        · rw [decide_eq_false el]
          refine ite2 (fun y => Bool.noConfusion y) fun _ => ?_
          refine miss ?_ H3 k3 _ _ _ _ _ _
          unfold missB
          rw [a5, decide_eq_false el, Bool.and_false]
      · rw [show decide (V.int e'.1 = V.int ns[n]) = false from decide_eq_false fun y => ec (V.int.inj y)]
        refine ite2 (fun y => Bool.noConfusion y) fun _ => ?_
        refine ite2 (fun y => Bool.noConfusion y) fun _ => ?_
        refine miss ?_ H2 .refl _ _ _ _ _ _
        unfold missB
        rw [gD, a1, decide_eq_false ec] <;> rfl
    · rintro σ H2 ⟨k2, k12, hall, y2, y3, y4, y5, y6, y7, y8, y9, y10, rfl⟩
      rw [hl31, List.take_of_length_le (by rw [tables_alike.2.1]; exact Nat.le_refl _)] at hall
      refine q _ _ k2 fun S => ?_
      rw [sense_none hall]
      exact .non
end
end K16
set_option Elab.async false
set_option linter.all false
set_option maxRecDepth 100000
set_option maxHeartbeats 1000000
namespace K16
open PySem PySem.Spec PyProof.Rows L2 Kb
theorem shaped_head {d : PyData} {ds : List PyData} (h : SeqAt.shaped (.tuple (d :: ds)) = true) : SeqAt.shaped d = true := by
  unfold SeqAt.shaped at h ⊢
  obtain ⟨h1, h2⟩ := Bool.and_eq_true_iff.mp h
  have h2 := of_decide_eq_true h2
  have h3 : (PyData.canLay0 d && PyData.canLayAll0 ds) = true := h1
  rw [(Bool.and_eq_true_iff.mp h3).1]
  have h4 : max (PyData.depth d) (PyData.depthAll ds) + 1 ≤ 64 := h2
  have : PyData.depth d ≤ 64 := by omega
  show (true && decide _) = true
  rw [decide_eq_true this] <;> rfl
theorem eqv_str (d : PyData) (x : Str) : PyData.eqv d (.str x) = headIs [d] x := by
  cases d with
  | str y =>
    show (y == x) = decide (x = y)
    by_cases h : y = x
    · subst h
      rw [beq_self_eq_true, decide_eq_true rfl]
    · rw [decide_eq_false (fun z => h z.symm)]
      exact beq_false_of_ne h
  | _ => rfl
theorem headIs_cons (d : PyData) (ds : List PyData) (x : Str) : headIs (d :: ds) x = headIs [d] x := by
  cases d <;> rfl
theorem eqv_nilT (ds : List PyData) : PyData.eqv (.tuple ds) (.tuple []) = ds.isEmpty := by
  cases ds <;> rfl
theorem shaped_word (e : En) (h : e ∈ lawL) : SeqAt.shaped (.str e.2.1) = true := by
  have key : lawL.all (fun e => SeqAt.shaped (.str e.2.1)) = true := by decide +kernel
  exact List.all_eq_true.mp key e h
theorem encs_alike : ∀ (ds : List PyData) (l l' : List Str), l.map isD = l'.map isD → encs (ds.zip l) = encs (ds.zip l')
  | ds, [], [], _ => rfl
  | _, [], _ :: _, h => by cases h
  | _, _ :: _, [], h => by cases h
  | [], _ :: _, _ :: _, _ => rfl
  | d :: ds, z :: r, z' :: r', h => by
    rw [List.map_cons, List.map_cons, List.cons.injEq] at h
    have ih := encs_alike ds r r' h.2
    show encP z (intOf d) ++ encs (ds.zip r) = encP z' (intOf d) ++ encs (ds.zip r')
    have : encP z (intOf d) = encP z' (intOf d) := by
      unfold encP
      rw [h.1]
    rw [ih, this]
theorem parts_ints {S : List Addr} {H : Hp} : ∀ {xs : List V} {ds : List PyData} (ls : List Str), DaL S H xs ds → ds.length = ls.length → partsOk ds ls = true → ∃ ps : List Int, xs = ps.map V.int ∧ ds = ps.map PyData.int
  | _, _, _, .nil, _, _ => ⟨[], rfl, rfl⟩
  | _, _, [], .cons _ _, h, _ => by cases h
  | _, _, z :: r, .cons (d := d) h hr, hl, hp => by
    obtain ⟨h1, h2⟩ := Bool.and_eq_true_iff.mp (show (partOk (d, z) && partsOk _ r) = true from hp)
    unfold partOk at h1
    cases hz : lim z with
    | none => rw [hz] at h1; cases h1
    | some b =>
      rw [hz] at h1
      obtain ⟨i, rfl, _, _⟩ := inB_int h1
      cases h
      obtain ⟨ps, rfl, rfl⟩ := parts_ints r hr (Nat.succ.inj hl) h2
      exact ⟨i :: ps, rfl, rfl⟩
def duePy (d m : PyData) : PyData := match codeOf d m with
  | none => .none
  | some e => .tuple ((instrOf (dsOf d) e).map .int)
def SpAt (H : Hp) (v : V) (z : Str) : Prop := ∃ t lo hi, v = .ref t ∧ lim z = some (lo, hi) ∧ H t = some (.tup [.int lo, .int (hi + 1)])
theorem spAt_kp {S : List Addr} {H H' : Hp} (k : Kp S H H') : ∀ {vs : List V} {l : List Str}, Paired (SpAt H) vs l → Paired (SpAt H') vs l
  | _, _, .nil => .nil
  | _, _, .cons ⟨t, lo, hi, e, h, g⟩ r => .cons ⟨t, lo, hi, e, h, k.tup g⟩ (spAt_kp k r)
section
variable {P : Program} {w : World} {K : PySem.W.Frag} {mg : Str → Option Value} {base : Heap}
/-! ### _law_due -/
def spDue : Sp := fun vs H Q _ => ∃ S x d y m, vs = [x, y] ∧ Da S H x d ∧ Da S H y m ∧ SeqAt.shaped d = true ∧ (dsOf d).length ≤ 1000 ∧ ∀ x' H', Kp [] H H' → (∀ S', Da S' H' x' (duePy d m)) → Q x' H'
end
end K16
set_option Elab.async false
set_option linter.all false
set_option maxRecDepth 100000
set_option maxHeartbeats 1000000
namespace K16
open PySem PySem.Spec PyProof.Rows L2 Kb
theorem shaped_intsT (ns : List Int) : SeqAt.shaped (.tuple (ns.map PyData.int)) = true := shaped_ints ns
theorem kit_self {K : PySem.W.Frag} {C : Addr} : PySem.W.kitOne K (.ref C) (.ref C) = some true := by
  unfold PySem.W.kitOne
  rw [if_pos (by simp)]
theorem Kp.ofExtP {P2 : Addr} {H H' : Hp} {q : Str} (hT : LamX.TabS H P2 q) (h : Kb.ExtP P2 H H') : Kp [P2] H H' := fun b o e hq => by
  by_cases hb : b = P2
  · subst hb
    obtain ⟨ps, e2, _⟩ := hT
    rw [e] at e2
    cases e2
    rcases hq with z | z
    · cases z
    · exact absurd (List.mem_singleton.mpr rfl) z
  · exact h b o hb e
section
variable {P : Program} {w : World} {K : PySem.W.Frag} {mg : Str → Option Value} {base : Heap}
end
end K16
set_option Elab.async false
set_option linter.all false
set_option maxRecDepth 100000
set_option maxHeartbeats 1000000
namespace K16
open PySem PySem.Spec PyProof.Rows L2 Kb
section
variable {P : Program} {w : World} {K : PySem.W.Frag} {mg : Str → Option Value} {base : Heap}
/-! ### _law_begun -/
def spBegun (K : PySem.W.Frag) : Sp := fun vs H Q _ => ∃ (a : Addr) (ns : List Int), vs = [.ref a] ∧ SqL K H a (ns.map V.int) ∧ ns.length ≤ 63 ∧ ∀ H' d w c, Kp [] H H' → Dr H' d w c 0 → H w = none → Q (.ref d) H'
theorem ok_begun {f : Addr} {fd : FuncData} {k : Nat} (F : Fun K "_law_begun" "_law_begun" s_l_begun f fd) (T : Bi mg) : FnOk P w K mg base CX0 (k + 1) f fd ["script"] (spBegun K) := by
  refine F.ok sc_l_begun (fun vs H Q E h => ?_) (fun cdv A outer s H vs Q E hr h => ?_)
  · obtain ⟨_, _, rfl, _⟩ := h
    rfl
  · obtain ⟨a, ns, rfl, hS, hlen, q⟩ := h
    refine ⟨_, (pss_cons (ps_setLc (i := 1) (own := [("grain", 2)]) (g := gName 2) (by rfl) sc_l_begun.nd rfl rfl (sw_true rfl rfl rfl (by decide +kernel)) (pi_list (pv 0)) (blkOk_by (own := [("grain", 2)]) (N := ["script", "wide", "grain"]) (sc := defScope s_l_begun) (by decide +kernel)) (fun _ _ _ _ _ => pg_name (i := 2) sc_l_begun.nd rfl (.inl rfl))
          (fun _ _ _ _ _ => pts_one (pt_cmpR op_ge (pe_callB call_abs (by rfl) T.m_abs (by decide +kernel) (pa_cons (pv 2) pa_nil)) (pe_op op_pow pe_int pe_int) (nomark _))) (fun _ _ _ _ _ => pe_op op_sub (pe_callB call_abs (by rfl) T.m_abs (by decide +kernel) (pa_cons (pv 2) pa_nil)) (pe_op op_pow pe_int pe_int)))
      (pss_one (ps_ret (pe_disp (pps_cons pe_str (pv 1) (pps_cons pe_str (pe_lc (own := [("grain", 2)]) (g := gName 2) (by rfl) sc_l_begun.nd (pi_list (pv 0)) (blkOk_by (own := [("grain", 2)]) (N := ["script", "wide", "grain"]) (sc := defScope s_l_begun) (by decide +kernel)) (fun _ _ _ _ _ => pg_name (i := 2) sc_l_begun.nd rfl (.inl rfl)) (fun _ _ _ _ _ => pts_nil)
          (fun _ _ _ _ _ => pe_op op_mod (pe_callTy call_int1 (by rfl) T.m_int (by decide +kernel) (pa_cons (pe_callB call_abs (by rfl) T.m_abs (by decide +kernel) (pa_cons (pv 2) pa_nil)) pa_nil)) pe_int))
        (pps_cons pe_str pe_int (pps_cons pe_str pe_int pps_nil)))) (by rfl) (by rfl) (by simp) (by decide))))), ?_⟩
    have lenN : (ns.map V.int).length = ns.length := List.length_map _
    refine ⟨.ref a, rfl, a, rfl, ⟨_, hS⟩, fun l nl => ?_⟩
    refine lc_by (J := Itl K a) (vs := [2]) (D := l) (H0 := upd H l (.lst [])) (n := ns.length) (fun j H' => Kp [] H H' ∧ ∃ ks : List Int, H' l = some (.lst (ks.map V.int)) ∧ ks.length ≤ j) ⟨Kp.new nl, [], upd_same, Nat.zero_le _⟩ ?_ ?_
    · rintro j H1 hj ⟨k1, ks, el, hk⟩
      obtain ⟨g, hg⟩ : ∃ g, ns[j]? = some g := ⟨_, List.getElem?_eq_getElem hj⟩
      have gV : (ns.map V.int)[j]? = some (.int g) := by rw [List.getElem?_map, hg] <;> rfl
      refine ⟨⟨_, _, sqL_kp k1 hS, gV⟩, ?_⟩
      rintro v H2 ⟨rfl, fv⟩
      have ev : v = .int g := Option.some.inj ((fv _ (sqL_kp k1 hS)).symm.trans gV)
      subst ev
      refine ⟨rfl, .int g, rfl, g, rfl, ?_⟩
      refine ⟨10, 18, rfl, rfl, ⟨by decide, by decide, by decide⟩, _, _, rfl, rfl, _, rfl, ite2 (fun _ => ?_) (fun _ => ?_)⟩
      · refine ⟨.int g, rfl, g, rfl, 10, 18, rfl, rfl, ⟨by decide, by decide, by decide⟩, _, _, rfl, rfl, _, el, ?_, k1.put nl, ks ++ [(if g < 0 then -g else g) - 10 ^ (18 : Int).toNat], ?_, ?_⟩
        · rw [List.length_map]
          exact small1000 (by omega)
        · rw [upd_same, List.map_append] <;> rfl
        · rw [List.length_append]
          show ks.length + 1 ≤ j + 1
          omega
      · exact ⟨k1, ks, el, by omega⟩
    · rintro H1 ⟨k1, ks, el, hk⟩
      refine ⟨⟨_, sqL_kp k1 hS, by rw [lenN]; exact Nat.le_refl _⟩, ?_⟩
      unfold tRet tDisp
      intro p np
      have k2 : Kp [] H1 (upd H1 p (.dK [])) := Kp.new np
      have np0 : H p = none := k1.none List.not_mem_nil np
      have kH2 := k1.trans k2
      have ep : (upd H1 p (.dK [])) p = some (.dK []) := upd_same
      have el2 := k2 l _ el (.inr List.not_mem_nil)
      generalize (upd H1 p (.dK [])) = H2 at k2 kH2 ep el2 ⊢
      refine ⟨.ref l, rfl, .ref a, rfl, a, rfl, ⟨_, sqL_kp kH2 hS⟩, fun l3 nl3 => ?_⟩
      refine lc_by (J := Itl K a) (vs := [2]) (D := l3) (H0 := upd H2 l3 (.lst [])) (n := ns.length) (fun j H' => Kp [] H2 H' ∧ ∃ ks : List Int, H' l3 = some (.lst (ks.map V.int)) ∧ ks.length ≤ j) ⟨Kp.new nl3, [], upd_same, Nat.zero_le _⟩ ?_ ?_
      · rintro j H3 hj ⟨k3, ks3, el3, hk3⟩
        obtain ⟨g, hg⟩ : ∃ g, ns[j]? = some g := ⟨_, List.getElem?_eq_getElem hj⟩
        have gV : (ns.map V.int)[j]? = some (.int g) := by rw [List.getElem?_map, hg] <;> rfl
        refine ⟨⟨_, _, sqL_kp (kH2.trans k3) hS, gV⟩, ?_⟩
        rintro v H4 ⟨rfl, fv⟩
        have ev : v = .int g := Option.some.inj ((fv _ (sqL_kp (kH2.trans k3) hS)).symm.trans gV)
        subst ev
        refine ⟨rfl, ?_⟩
        unfold tYes
        refine (if_pos rfl).mpr ?_
        refine ⟨.int g, rfl, g, rfl, .inl ⟨_, rfl, _, _, rfl, rfl, (by show (0 : Int) < 2147483629; decide), _, el3, ?_, k3.put nl3, ks3 ++ [(if g < 0 then -g else g) % 2147483629], ?_, ?_⟩⟩
        · rw [List.length_map]
          exact small1000 (by omega)
        · rw [upd_same, List.map_append] <;> rfl
        · rw [List.length_append]
          show ks3.length + 1 ≤ j + 1
          omega
      · rintro H3 ⟨k3, ks3, el3, hk3⟩
        refine ⟨⟨_, sqL_kp (kH2.trans k3) hS, by rw [lenN]; exact Nat.le_refl _⟩, ?_⟩
        have ep3 := k3 p _ ep (.inr List.not_mem_nil)
        have ell := k3 l _ el2 (.inr List.not_mem_nil)
        have n1 : l ≠ p := fun e => by rw [e, ep3] at ell; cases ell
        have n2 : l3 ≠ p := fun e => by rw [e, ep3] at el3; cases el3
        refine ⟨ep3, drawKV l l3 0 0, rfl, by show 4 ≤ 15; omega, ?_⟩
        refine q _ p l l3 ((kH2.trans k3).put np0) ⟨⟨0, 0, upd_same, by omega, by omega⟩, ⟨ks, by rw [upd_ne n1]; exact ell, by omega⟩, ⟨ks3, by rw [upd_ne n2]; exact el3, by omega⟩⟩ nl
end
end K16
set_option Elab.async false
set_option linter.all false
set_option maxRecDepth 100000
set_option maxHeartbeats 1000000
namespace K16
open PySem PySem.Spec PyProof.Rows L2 Kb
/-- data of a bounded depth -/
def ok3 (n : Nat) (d : PyData) : Bool := d.canLay0 && decide (d.depth ≤ n) && decide ((dsOf d).length ≤ 50)
theorem ok3_of {n : Nat} {d : PyData} (h : ok3 n d = true) : d.canLay0 = true ∧ d.depth ≤ n ∧ (dsOf d).length ≤ 50 := by
  unfold ok3 at h
  simp only [Bool.and_eq_true, decide_eq_true_eq] at h
  exact ⟨h.1.1, h.1.2, h.2⟩
theorem ok3_mk {n : Nat} {d : PyData} (h1 : d.canLay0 = true) (h2 : d.depth ≤ n) (h3 : (dsOf d).length ≤ 50) : ok3 n d = true := by
  unfold ok3
  simp only [Bool.and_eq_true, decide_eq_true_eq]
  exact ⟨⟨h1, h2⟩, h3⟩
theorem ok3_shaped {n : Nat} {d : PyData} (h : ok3 n d = true) (hn : n ≤ 64) : SeqAt.shaped d = true := by
  obtain ⟨h1, h2, _⟩ := ok3_of h
  unfold SeqAt.shaped
  rw [h1, decide_eq_true (show d.depth ≤ 64 by omega)] <;> rfl
def Fr (H : Hp) (S : List Addr) : Prop := ∀ s ∈ S, H s ≠ none
theorem Fr.ni {H : Hp} {S : List Addr} (f : Fr H S) {p : Addr} (n : H p = none) : p ∉ S := fun hm => f p hm n
theorem Fr.kp {H H' : Hp} {S : List Addr} (f : Fr H S) (k : Kp [] H H') : Fr H' S := fun s hs e => by
  have h := f s hs
  cases q : H s with
  | none => exact h q
  | some o =>
    rw [k s o q (.inr List.not_mem_nil)] at e
    cases e
theorem DaL.mem {S : List Addr} {H : Hp} {x : V} : ∀ {xs : List V} {ds : List PyData}, DaL S H xs ds → x ∈ xs → ∃ d ∈ ds, Da S H x d
  | _, _, .cons h r, hm => by
    rcases List.mem_cons.mp hm with z | z
    · subst z
      exact ⟨_, List.mem_cons_self, h⟩
    · obtain ⟨d, h1, h2⟩ := DaL.mem r z
      exact ⟨d, List.mem_cons_of_mem _ h1, h2⟩
/-! #### displays of written things -/
inductive Am where
  | c (v : V)
  | n (i : Int)
def Am.t : Am → TE
  | .c v => tC v
  | .n i => tUn (rU fun i => .int (-i)) (tC (.int i))
def Am.v : Am → V
  | .c v => v
  | .n i => .int (-i)
def datV : V → PyData
  | .bl b => .bool b
  | .int i => .int i
  | .str x => .str x
  | _ => .none
def atomV : V → Bool
  | .non => true
  | .bl _ => true
  | .int _ => true
  | .str _ => true
  | _ => false
def Am.d (m : Am) : PyData := datV m.v
def Am.ok (m : Am) : Bool := atomV m.v
theorem Am.da {S : List Addr} {H : Hp} {m : Am} (h : m.ok = true) : Da S H m.v m.d := by
  unfold Am.ok at h
  unfold Am.d
  cases e : m.v <;> rw [e] at h
  case non => exact .non
  case bl b => exact .bl b
  case int i => exact .int i
  case str x => exact .str x
  all_goals cases h
theorem Am.t_ok (m : Am) {σ : L2.St} {H : Hp} {Q : VK} (h : Q m.v H) : m.t σ H Q := by
  cases m with
  | c v => exact h
  | n i => exact ⟨i, rfl, h⟩
def tAms : List Am → TA
  | [] => tNil
  | m :: r => tCons m.t (tAms r)
theorem tAms_ok : ∀ (l : List Am) {σ : L2.St} {H : Hp} {Q : List V → Hp → Prop}, Q (l.map Am.v) H → tAms l σ H Q
  | [], _, _, _, h => h
  | m :: r, _, _, _, h => m.t_ok (tAms_ok r h)
theorem ams_da {S : List Addr} {H : Hp} : ∀ {l : List Am}, l.all Am.ok = true → DaL S H (l.map Am.v) (l.map Am.d)
  | [], _ => .nil
  | m :: r, h => by
    obtain ⟨h1, h2⟩ := Bool.and_eq_true_iff.mp (show (m.ok && r.all Am.ok) = true from h)
    exact .cons (Am.da h1) (ams_da h2)
inductive Im where
  | a (m : Am)
  | tup (l : List Am)
  | lst (l : List Am)
def Im.t : Im → TE
  | .a m => m.t
  | .tup l => tTup (tAms l)
  | .lst l => tLst (tAms l)
def Im.d : Im → PyData
  | .a m => m.d
  | .tup l => .tuple (l.map Am.d)
  | .lst l => .list (l.map Am.d)
def Im.ok : Im → Bool
  | .a m => m.ok
  | .tup l => l.all Am.ok && decide (l.length ≤ 100)
  | .lst l => l.all Am.ok && decide (l.length ≤ 100)
def tIms : List Im → TA
  | [] => tNil
  | m :: r => tCons m.t (tIms r)
theorem tIms_ok {S : List Addr} : ∀ (l : List Im) {σ : L2.St} {H : Hp} {Q : List V → Hp → Prop}, l.all Im.ok = true → Fr H S → (∀ vs H', Kp [] H H' → DaL S H' vs (l.map Im.d) → Q vs H') → tIms l σ H Q
  | [], _, H, _, _, _, h => h [] H .refl .nil
  | .a m :: r, σ, H, Q, hok, hF, h => by
    obtain ⟨h1, h2⟩ := Bool.and_eq_true_iff.mp (show (Im.ok (.a m) && r.all Im.ok) = true from hok)
    exact m.t_ok (tIms_ok r h2 hF fun vs H' k hd => h _ H' k (.cons (Am.da h1) hd))
  | .tup l :: r, σ, H, Q, hok, hF, h => by
    obtain ⟨h1, h2⟩ := Bool.and_eq_true_iff.mp (show (Im.ok (.tup l) && r.all Im.ok) = true from hok)
    obtain ⟨h3, h4⟩ := Bool.and_eq_true_iff.mp (show (l.all Am.ok && decide (l.length ≤ 100)) = true from h1)
    have h4 := of_decide_eq_true h4
    refine tAms_ok l ⟨small (by rw [List.length_map]; omega), fun p np => ?_⟩
    exact tIms_ok r h2 (hF.kp (Kp.new np)) fun vs H' k hd => h _ H' ((Kp.new np).trans k) (.cons (.tup (k.tup upd_same) (ams_da h3)) hd)
  | .lst l :: r, σ, H, Q, hok, hF, h => by
    obtain ⟨h1, h2⟩ := Bool.and_eq_true_iff.mp (show (Im.ok (.lst l) && r.all Im.ok) = true from hok)
    obtain ⟨h3, h4⟩ := Bool.and_eq_true_iff.mp (show (l.all Am.ok && decide (l.length ≤ 100)) = true from h1)
    have h4 := of_decide_eq_true h4
    refine tAms_ok l ⟨small (by rw [List.length_map]; omega), fun p np => ?_⟩
    exact tIms_ok r h2 (hF.kp (Kp.new np)) fun vs H' k hd => h _ H' ((Kp.new np).trans k) (.cons (.lst (k _ _ upd_same (.inr List.not_mem_nil)) (hF.ni np) (ams_da h3)) hd)
theorem lstIms_ok {S : List Addr} (l : List Im) {σ : L2.St} {H : Hp} {Q : VK} (hok : l.all Im.ok = true) (hl : l.length ≤ 500) (hF : Fr H S) (h : ∀ p vs H', Kp [] H H' → H p = none → H' p = some (.lst vs) → DaL S H' vs (l.map Im.d) → Q (.ref p) H') : tLst (tIms l) σ H Q := by
  refine tIms_ok l hok hF fun vs H' k hd => ⟨small (by rw [hd.len, List.length_map]; omega), fun p np => ?_⟩
  exact h p vs _ (k.put2 np) (k.none List.not_mem_nil np) upd_same (hd.kp (Kp.new np))
def imA : List Im := [.a (.c .non), .a (.c (.bl true)), .a (.c (.bl false)), .a (.c (.int 0)), .a (.c (.int 1)), .a (.c (.int 2)), .a (.c (.int 5)), .a (.c (.int 13)), .a (.c (.int 20)), .a (.c (.int 21)), .a (.c (.int 39)), .a (.c (.int 40)), .a (.c (.int 62)), .a (.c (.int 63)), .a (.c (.int 64)), .a (.n 1), .a (.c (.str "")), .a (.c (.str "a")), .a (.c (.str "set")), .a (.c (.str "row")), .a (.c (.str "name")), .a (.c (.str "near")), .a (.c (.str "branch")), .a (.c (.str "goto")), .a (.c (.str "load")), .a (.c (.str "take"))]
def imB : List Im := [.a (.c (.str "own")), .a (.c (.str "open")), .a (.c (.str "weak")), .a (.c (.str "strong")), .a (.c (.str "code")), .a (.c (.str "data")), .a (.c (.str "object")), .tup [], .tup [.c (.int 0)], .tup [.c (.int 1), .c (.int 2)], .tup [.c (.str "row"), .c (.int 0)], .tup [.c (.str "name"), .c (.str "a")], .lst [], .lst [.c (.str "a")], .a (.c (.str "abcdefghi")), .a (.c (.int 32767)), .a (.c (.int 32768))]
theorem im_ok : (imA.map Im.d ++ imB.map Im.d).all (ok3 1) = true := by decide +kernel
section
variable {P : Program} {w : World} {K : PySem.W.Frag} {mg : Str → Option Value} {base : Heap}
/-! ### _law_strange -/
def spStrange : Sp := fun vs H Q _ => ∃ S d w c N, vs = [.ref d] ∧ Dr H d w c N ∧ N ≤ 1000000000 ∧ d ∈ S ∧ w ∈ S ∧ Fr H S ∧ ∀ H' x dd, Kp [d, w] H H' → Dr H' d w c (N + 1) → Da S H' x dd → ok3 1 dd = true → Q x H'
end
end K16
set_option Elab.async false
set_option linter.all false
set_option maxRecDepth 100000
set_option maxHeartbeats 1000000
namespace K16
open PySem PySem.Spec PyProof.Rows L2 Kb
def okL (n : Nat) (ds : List PyData) : Prop := ∀ d ∈ ds, d.canLay0 = true ∧ d.depth ≤ n
theorem okL_all {n : Nat} : ∀ {ds : List PyData}, okL n ds → PyData.canLayAll0 ds = true ∧ PyData.depthAll ds ≤ n
  | [], _ => ⟨rfl, Nat.zero_le _⟩
  | d :: ds, h => by
    obtain ⟨h1, h2⟩ := okL_all (fun x hx => h x (List.mem_cons_of_mem _ hx))
    obtain ⟨h3, h4⟩ := h d List.mem_cons_self
    refine ⟨?_, ?_⟩
    · show (PyData.canLay0 d && PyData.canLayAll0 ds) = true
      rw [h1, h3] <;> rfl
    · show max (PyData.depth d) (PyData.depthAll ds) ≤ n
      exact Nat.max_le.mpr ⟨h4, h2⟩
theorem ok3_tup {n : Nat} {ds : List PyData} (h : okL n ds) (hl : ds.length ≤ 50) : ok3 (n + 1) (.tuple ds) = true := ok3_mk (okL_all h).1 (Nat.succ_le_succ (okL_all h).2) hl
theorem ok3_lst {n : Nat} {ds : List PyData} (h : okL n ds) (hl : ds.length ≤ 50) : ok3 (n + 1) (.list ds) = true := ok3_mk (okL_all h).1 (Nat.succ_le_succ (okL_all h).2) hl
theorem ok3_mono {n m : Nat} {d : PyData} (h : ok3 n d = true) (hn : n ≤ m) : ok3 m d = true := by
  obtain ⟨h1, h2, h3⟩ := ok3_of h
  exact ok3_mk h1 (by omega) h3
theorem okL_mono {n m : Nat} {ds : List PyData} (h : okL n ds) (hn : n ≤ m) : okL m ds := fun d hd => ⟨(h d hd).1, Nat.le_trans (h d hd).2 hn⟩
theorem okL_app {n : Nat} {ds es : List PyData} (h : okL n ds) (h2 : okL n es) : okL n (ds ++ es) := fun d hd => by
  rcases List.mem_append.mp hd with z | z
  · exact h d z
  · exact h2 d z
theorem okL_sub {n : Nat} {ds es : List PyData} (h : okL n ds) (hs : ∀ x ∈ es, x ∈ ds) : okL n es := fun d hd => h d (hs d hd)
theorem Fr.kpd {H H' : Hp} {S : List Addr} {d w c : Addr} {N : Nat} (f : Fr H S) (k : Kp [d, w] H H') (D : Dr H' d w c N) : Fr H' S := fun s hs e => by
  by_cases h : s ∈ [d, w]
  · obtain ⟨⟨r, t, ed, _, _⟩, ⟨ws, ew, _⟩, _⟩ := D
    simp only [List.mem_cons, List.not_mem_nil, or_false] at h
    rcases h with h | h
    · rw [h, ed] at e; cases e
    · rw [h, ew] at e; cases e
  · cases q : H s with
    | none => exact f s hs q
    | some o =>
      rw [k s o q (.inr h)] at e
      cases e
theorem catA {K : PySem.W.Frag} {H : Hp} {a b : Addr} {xs ys : List V} {Q : VK} (ea : H a = some (.tup xs)) (eb : H b = some (.tup ys)) (hl : xs.length + ys.length ≤ 1000) (h : ∀ r H', Kp [] H H' → H' r = some (.tup (xs ++ ys)) → Q (.ref r) H') : rCatA K (.ref a) (.ref b) H Q :=
  ⟨a, b, xs, ys, rfl, rfl, sqT ea, sqT eb, small hl, fun z => h b H .refl (by rw [z]; exact eb), fun _ z => h a H .refl (by rw [z, List.append_nil]; exact ea), fun _ _ p np => h p _ (Kp.new np) upd_same⟩
theorem slA {K : PySem.W.Frag} {H : Hp} {a : Addr} {xs : List V} {lo hi : Option Int} {Q : VK} (ea : H a = some (.tup xs)) (h : ∀ r H', Kp [] H H' → H' r = some (.tup (cutV xs lo hi)) → Q (.ref r) H') : rSlA K (.ref a) lo hi H Q := by
  refine ⟨a, xs, rfl, sqT ea, fun hf => h a H .refl ?_, fun _ p np => h p _ (Kp.new np) upd_same⟩
  have : cutV xs lo hi = xs := by
    unfold cutV
    rw [hf.1, hf.2]
    simp
  rw [this]
  exact ea
theorem cut_take (xs : List V) (n : Nat) : cutV xs none (some (n : Int)) = xs.take n := by
  unfold cutV
  rw [HT.sIx_none, HT.sIx_nat]
  rw [List.drop_zero, Nat.sub_zero]
  rcases Nat.le_total n xs.length with h | h
  · rw [Nat.min_eq_left h]
  · rw [Nat.min_eq_right h, List.take_of_length_le h, List.take_length]
theorem cut_drop (xs : List V) (n : Nat) : cutV xs (some (n : Int)) none = xs.drop n := by
  unfold cutV
  rw [HT.sIx_none, HT.sIx_nat]
  rcases Nat.le_total n xs.length with h | h
  · rw [Nat.min_eq_left h]
    exact List.take_of_length_le (by rw [List.length_drop]; exact Nat.le_refl _)
  · rw [Nat.min_eq_right h, List.drop_of_length_le h, List.drop_of_length_le (Nat.le_refl _), List.take_nil]
section
variable {P : Program} {w : World} {K : PySem.W.Frag} {mg : Str → Option Value} {base : Heap}
/-! ### _law_changed -/
def isT : PyData → Bool
  | .tuple _ => true
  | _ => false
/-- b: may it be a tuple (whose items are none)? -/
def TreeOk (b : Bool) (t : PyData) : Prop := (b = false → isT t = false) ∧ okL 0 (dsOf t) ∧ (dsOf t).length ≤ 20 ∧ ∀ e ∈ dsOf t, dsOf e = [] ∧ isT e = false
def spCh (b : Bool) : Sp := fun vs H Q _ => ∃ S d w c N x t, vs = [.ref d, x] ∧ Dr H d w c N ∧ N ≤ 100000000 + (if b then 0 else 10) ∧ d ∈ S ∧ w ∈ S ∧ Fr H S ∧ Da S H x t ∧ TreeOk b t ∧ ∀ H' x' t', Kp [d, w] H H' → Dr H' d w c (N + (if b then 10 else 5)) → Da S H' x' t' → ok3 (if b then 2 else 1) t' = true → Q x' H'
end
end K16
set_option Elab.async false
set_option linter.all false
set_option maxRecDepth 100000
set_option maxHeartbeats 2000000
namespace K16
open PySem PySem.Spec PyProof.Rows L2 Kb
def qTold : Str := (envOfC "_law_is_walk" (defScope s_l_is_walk) 0 0 .none).qual ++ "<lambda>"
def qLaw : Str := (envOfC "law" (defScope s_law) 0 0 .none).qual ++ "<lambda>"
theorem with_rest {t REST : TS} {D : Ends} {σ : L2.St} {H : Hp} (h : ∀ Rn : L2.St → Hp → Prop, Rn = REST D → t { D with nx := Rn } σ H) : tSeq t REST D σ H := h _ rfl
theorem consLst {t : TA} {σ : L2.St} {H : Hp} {Q : List V → Hp → Prop} (h : tLst t σ H fun v H1 => Q [v] H1) : tCons (tLst t) tNil σ H Q := h
theorem tabG_kp' {P : Addr} {S : List Addr} {H H' : Hp} (h : GxR.TabG H P) (k : Kp S H H') (n : P ∉ S) : GxR.TabG H' P := by
  obtain ⟨ps, e, t⟩ := h
  exact ⟨ps, k _ _ e (.inr n), t⟩
theorem tabS_kp' {P : Addr} {S : List Addr} {H H' : Hp} {q : Str} (h : LamX.TabS H P q) (k : Kp S H H') (n : P ∉ S) : LamX.TabS H' P q := by
  obtain ⟨ps, e, t, g⟩ := h
  exact ⟨ps, k _ _ e (.inr n), t, fun pos cv hcv => let ⟨c, e1, e2⟩ := g pos cv hcv; ⟨c, e1, k _ _ e2 (.inl rfl)⟩⟩
/-- the state between calls -/
structure Wd (P1 P2 P3 : Addr) (H : Hp) (d w c : Addr) (N : Nat) : Prop where
  dr : Dr H d w c N
  t1 : GxR.TabG H P1
  t2 : LamX.TabS H P2 qTold
  t3 : LamX.TabS H P3 qLaw
section
variable {P1 P2 P3 d w c : Addr} {H H' : Hp} {N M : Nat}
theorem Wd.off {o : Addr} (hW : Wd P1 P2 P3 H d w c N) (h : o = P1 ∨ o = P2 ∨ o = P3) : ∃ ps, H o = some (.tbl ps) := by
  obtain ⟨_, ⟨p1, e1, _⟩, ⟨p2, e2, _⟩, ⟨p3, e3, _⟩⟩ := hW
  rcases h with rfl | rfl | rfl
  · exact ⟨_, e1⟩
  · exact ⟨_, e2⟩
  · exact ⟨_, e3⟩
theorem Wd.ndw {o : Addr} (hW : Wd P1 P2 P3 H d w c N) (h : o = P1 ∨ o = P2 ∨ o = P3) : o ∉ [d, w] := fun hm => by
  obtain ⟨ps, e⟩ := hW.off h
  obtain ⟨⟨r, t, ed, _, _⟩, ⟨ws, ew, _⟩, _⟩ := hW.dr
  simp only [List.mem_cons, List.not_mem_nil, or_false] at hm
  rcases hm with z | z
  · rw [z, ed] at e; cases e
  · rw [z, ew] at e; cases e
theorem Wd.drx {o : Addr} (hW : Wd P1 P2 P3 H d w c N) (h : o = P1 ∨ o = P2 ∨ o = P3) (k : Kp [o] H H') : Dr H' d w c N := by
  obtain ⟨ps, e⟩ := hW.off h
  refine hW.dr.kp k ?_ ?_ ?_ <;> intro z <;> rw [← List.mem_singleton.mp z] at e
  · obtain ⟨⟨r, t, ed, _, _⟩, _, _⟩ := hW.dr
    rw [ed] at e; cases e
  · obtain ⟨_, ⟨ws, ew, _⟩, _⟩ := hW.dr
    rw [ew] at e; cases e
  · obtain ⟨_, _, ⟨cs, ec, _⟩⟩ := hW.dr
    rw [ec] at e; cases e
theorem Wd.kp0 (hW : Wd P1 P2 P3 H d w c N) (k : Kp [] H H') : Wd P1 P2 P3 H' d w c N := ⟨hW.dr.kp0 k, tabG_kp' hW.t1 k List.not_mem_nil, tabS_kp' hW.t2 k List.not_mem_nil, tabS_kp' hW.t3 k List.not_mem_nil⟩
theorem Wd.kdw (hW : Wd P1 P2 P3 H d w c N) (k : Kp [d, w] H H') (D : Dr H' d w c M) : Wd P1 P2 P3 H' d w c M := ⟨D, tabG_kp' hW.t1 k (hW.ndw (.inl rfl)), tabS_kp' hW.t2 k (hW.ndw (.inr (.inl rfl))), tabS_kp' hW.t3 k (hW.ndw (.inr (.inr rfl)))⟩
theorem Wd.k1 (hW : Wd P1 P2 P3 H d w c N) (n12 : P1 ≠ P2) (n13 : P1 ≠ P3) (k : Kp [P1] H H') (t : GxR.TabG H' P1) : Wd P1 P2 P3 H' d w c N := ⟨hW.drx (.inl rfl) k, t, tabS_kp' hW.t2 k (fun z => n12 (List.mem_singleton.mp z).symm), tabS_kp' hW.t3 k (fun z => n13 (List.mem_singleton.mp z).symm)⟩
theorem Wd.k2 (hW : Wd P1 P2 P3 H d w c N) (n12 : P1 ≠ P2) (n23 : P2 ≠ P3) (k : Kp [P2] H H') (t : LamX.TabS H' P2 qTold) : Wd P1 P2 P3 H' d w c N := ⟨hW.drx (.inr (.inl rfl)) k, tabG_kp' hW.t1 k (fun z => n12 (List.mem_singleton.mp z)), t, tabS_kp' hW.t3 k (fun z => n23 (List.mem_singleton.mp z).symm)⟩
theorem Wd.k3 (hW : Wd P1 P2 P3 H d w c N) (n13 : P1 ≠ P3) (n23 : P2 ≠ P3) (k : Kp [P3] H H') (t : LamX.TabS H' P3 qLaw) : Wd P1 P2 P3 H' d w c N := ⟨hW.drx (.inr (.inr rfl)) k, tabG_kp' hW.t1 k (fun z => n13 (List.mem_singleton.mp z)), tabS_kp' hW.t2 k (fun z => n23 (List.mem_singleton.mp z)), t⟩
theorem Wd.mono (hW : Wd P1 P2 P3 H d w c N) (h : N ≤ M) : Wd P1 P2 P3 H d w c M := ⟨hW.dr.mono h, hW.t1, hW.t2, hW.t3⟩
/-- what may change -/
abbrev SS (P1 P2 P3 d w : Addr) : List Addr := [P1, P2, P3, d, w]
theorem Wd.fr (hW : Wd P1 P2 P3 H d w c N) : Fr H (SS P1 P2 P3 d w) := fun s hs e => by
  simp only [List.mem_cons, List.not_mem_nil, or_false] at hs
  obtain ⟨⟨r, t, ed, _, _⟩, ⟨ws, ew, _⟩, _⟩ := hW.dr
  rcases hs with h | h | h | h | h
  · obtain ⟨ps, q⟩ := hW.off (o := s) (.inl h); rw [q] at e; cases e
  · obtain ⟨ps, q⟩ := hW.off (o := s) (.inr (.inl h)); rw [q] at e; cases e
  · obtain ⟨ps, q⟩ := hW.off (o := s) (.inr (.inr h)); rw [q] at e; cases e
  · rw [h, ed] at e; cases e
  · rw [h, ew] at e; cases e
theorem kdS (k : Kp [d, w] H H') : Kp (SS P1 P2 P3 d w) H H' := k.mono fun b hb => by
  simp only [List.mem_cons, List.not_mem_nil, or_false] at hb ⊢
  rcases hb with z | z <;> simp [z]
theorem k1S (k : Kp [P1] H H') : Kp (SS P1 P2 P3 d w) H H' := k.mono fun b hb => by rw [List.mem_singleton.mp hb]; simp
theorem k2S (k : Kp [P2] H H') : Kp (SS P1 P2 P3 d w) H H' := k.mono fun b hb => by rw [List.mem_singleton.mp hb]; simp
theorem k3S (k : Kp [P3] H H') : Kp (SS P1 P2 P3 d w) H H' := k.mono fun b hb => by rw [List.mem_singleton.mp hb]; simp
end
/-! #### cells -/
theorem encP_cells (z : Str) (p : Int) : Cells (encP z p) := fun x hx => by
  unfold encP at hx
  split at hx
  · simp only [List.mem_cons, List.not_mem_nil, or_false] at hx
    rcases hx with rfl | rfl <;> omega
  · simp only [List.mem_cons, List.not_mem_nil, or_false] at hx
    subst hx
    omega
theorem encs_cells : ∀ ps : List (PyData × Str), Cells (encs ps)
  | [] => fun _ h => nomatch h
  | p :: r => fun x hx => by
    rcases List.mem_append.mp (show x ∈ encP p.2 (intOf p.1) ++ encs r from hx) with z | z
    · exact encP_cells _ _ x z
    · exact encs_cells r x z
theorem made_cells {e : En} (he : e ∈ lawL) (ps : List Int) : Cells (e.1 :: encs ((ps.map PyData.int).zip (lets e.2.2))) ∧ (e.1 :: encs ((ps.map PyData.int).zip (lets e.2.2))).length ≤ 9 := by
  obtain ⟨h4, _, _, _, h1, h2, _⟩ := okEn_of (law_ok e he)
  refine ⟨fun x hx => ?_, ?_⟩
  · rcases List.mem_cons.mp hx with z | z
    · subst z; omega
    · exact encs_cells _ x z
  · have := encs_len ((ps.map PyData.int).zip (lets e.2.2))
    rw [List.length_zip, lets_len] at this
    rw [List.length_cons]
    omega
theorem cells_app {a b : List Int} (ha : Cells a) (hb : Cells b) : Cells (a ++ b) := fun x hx => by
  rcases List.mem_append.mp hx with z | z
  · exact ha x z
  · exact hb x z
theorem cells_ok {ns : List Int} (h : Cells ns) : (ns.map PyData.int).all (inB 0 63) = true := by
  rw [List.all_eq_true]
  intro x hx
  obtain ⟨i, hi, rfl⟩ := List.mem_map.mp hx
  obtain ⟨h1, h2⟩ := h i hi
  show (decide (0 ≤ i) && decide (i ≤ 63)) = true
  rw [decide_eq_true h1, decide_eq_true h2] <;> rfl
theorem isOf_ints (ns : List Int) : (ns.map PyData.int).map intOf = ns := by
  rw [List.map_map]
  exact List.map_id _
theorem form_words : formL.all (fun e => SeqAt.shaped (.str e.2.1)) = true := by decide +kernel
theorem shaped_sense (ns : List Int) (n : Nat) : SeqAt.shaped (sensePy (senseOf ns n)) = true := by
  cases h : senseOf ns n with
  | none => rfl
  | some q =>
    obtain ⟨wd, ps, m⟩ := q
    have hw : SeqAt.shaped (.str wd) = true := by
      unfold senseOf at h
      cases h1 : formL.find? (fun e => decide (e.1 = ns.getD n 0)) with
      | none => rw [h1] at h; cases h
      | some e =>
        rw [h1] at h
        dsimp only at h
        split at h
        · cases h
        · split at h
          · cases h
            exact List.all_eq_true.mp form_words e (List.mem_of_find?_eq_some h1)
          · cases h
    have hL : okL 0 (.str wd :: ps.map .int) := fun x hx => by
      rcases List.mem_cons.mp hx with z | z
      · subst z
        exact ⟨SeqAt.canLay_of_shaped hw, Nat.le_refl _⟩
      · obtain ⟨i, _, rfl⟩ := List.mem_map.mp z
        exact ⟨rfl, Nat.le_refl _⟩
    obtain ⟨h1, h2⟩ := okL_all hL
    have hL2 : okL 1 [.tuple (.str wd :: ps.map .int), .int m] := fun x hx => by
      simp only [List.mem_cons, List.not_mem_nil, or_false] at hx
      rcases hx with z | z
      · subst z
        exact ⟨h1, Nat.succ_le_succ h2⟩
      · subst z
        exact ⟨rfl, Nat.zero_le _⟩
    obtain ⟨h3, h4⟩ := okL_all hL2
    unfold SeqAt.shaped
    have e1 : (sensePy (some (wd, ps, m))).canLay0 = true := h3
    have e2 : (sensePy (some (wd, ps, m))).depth ≤ 64 := by
      show PyData.depthAll _ + 1 ≤ 64
      have : PyData.depthAll [.tuple (.str wd :: ps.map .int), .int m] ≤ 1 := h4
      omega
    rw [e1, decide_eq_true e2] <;> rfl
theorem sense_tree {word : Str} {ps : List Int} (hw : SeqAt.shaped (.str word) = true) (hl : ps.length ≤ 19) : TreeOk true (.tuple (.str word :: ps.map .int)) ∧ SeqAt.shaped (.tuple (.str word :: ps.map .int)) = true := by
  have hL : okL 0 (.str word :: ps.map .int) := fun x hx => by
    rcases List.mem_cons.mp hx with z | z
    · subst z
      exact ⟨SeqAt.canLay_of_shaped hw, Nat.le_refl _⟩
    · obtain ⟨i, _, rfl⟩ := List.mem_map.mp z
      exact ⟨rfl, Nat.le_refl _⟩
  have hlen : (PyData.str word :: ps.map .int).length ≤ 20 := by
    rw [List.length_cons, List.length_map]
    omega
  refine ⟨⟨(fun z => by cases z), hL, hlen, fun x hx => ?_⟩, ok3_shaped (ok3_tup hL (by omega)) (by omega)⟩
  rcases List.mem_cons.mp hx with z | z
  · subst z; exact ⟨rfl, rfl⟩
  · obtain ⟨i, _, rfl⟩ := List.mem_map.mp z
    exact ⟨rfl, rfl⟩
def am6 : List Am := [.c (.int 1), .c (.int 2), .c (.int 3), .c (.int 4), .c (.int 5), .c (.int 6)]
def am9 : List Am := [.c (.int 1), .c (.int 2), .c (.int 3), .c (.int 4), .c (.int 5), .c (.int 6), .c .non, .c (.bl true), .c (.str "2")]
def am8 : List Am := [.n 33, .n 32, .c (.int 31), .c (.int 32), .n 2049, .n 2048, .c (.int 2047), .c (.int 2048)]
def am5 (n : Int) : List Am := [.n 1, .c (.int n), .c .non, .c (.bl true), .c (.str "0")]
def im8 : List Im := [.a (.c .non), .a (.c (.int 5)), .a (.c (.str "21")), .lst [.c (.int 64)], .lst [.c (.int 21), .n 1], .tup [.c (.int 21), .c (.bl true)], .lst [.c .non], .lst [.c (.int 21), .c (.str "21")]]
theorem im8_bad : (im8.map Im.d).all (fun d => !cellsOk d && decide ((dsOf d).length ≤ 1000)) = true := by decide +kernel
theorem am8_int : ∀ x ∈ am8.map Am.v, ∃ i : Int, x = .int i := by
  intro x hx
  simp only [am8, List.map_cons, List.map_nil, List.mem_cons, List.not_mem_nil, or_false, Am.v] at hx
  rcases hx with h | h | h | h | h | h | h | h <;> exact ⟨_, h⟩
theorem am5_bad {S : List Addr} {H : Hp} {n : Nat} {x : V} {dd : PyData} (hx : x ∈ (am5 n).map Am.v) (hd : Da S H x dd) : inB 0 ((n : Int) - 1) dd = false := by
  simp only [am5, List.map_cons, List.map_nil, List.mem_cons, List.not_mem_nil, or_false, Am.v] at hx
  rcases hx with h | h | h | h | h <;> subst h <;> cases hd
  · rfl
  · show (decide (0 ≤ (n : Int)) && decide ((n : Int) ≤ n - 1)) = false
    rw [decide_eq_false (show ¬ (n : Int) ≤ n - 1 by omega), Bool.and_false]
  · rfl
  · rfl
  · rfl
theorem cut_init (xs : List V) : cutV xs none (some (-1)) = xs.take (xs.length - 1) := by
  unfold cutV
  rw [HT.sIx_none, List.drop_zero, Nat.sub_zero]
  have : HT.sIx xs.length xs.length (some (-1)) = xs.length - 1 := by
    show (if (-1 : Int) < 0 then ((-1 : Int) + (xs.length : Int)).toNat else min (-1 : Int).toNat xs.length) = _
    rw [if_pos (by decide)]
    omega
  rw [this]
end K16
namespace K16
open PySem PySem.Spec PyProof.Rows L2 Kb
def AtL (ds : List PyData) : Prop := ∀ x ∈ ds, (x.canLay0 = true ∧ x.depth ≤ 0) ∧ dsOf x = [] ∧ isT x = false
theorem at_tree {ds : List PyData} (h : AtL ds) (hl : ds.length ≤ 20) : TreeOk true (.tuple ds) ∧ SeqAt.shaped (.tuple ds) = true :=
  ⟨⟨(fun z => by cases z), (fun x hx => (h x hx).1), hl, fun x hx => (h x hx).2⟩, ok3_shaped (ok3_tup (n := 0) (fun x hx => (h x hx).1) (by omega)) (by omega)⟩
theorem at_sense {word : Str} {ps : List Int} (hw : SeqAt.shaped (.str word) = true) : AtL (.str word :: ps.map .int) := fun x hx => by
  rcases List.mem_cons.mp hx with z | z
  · subst z
    exact ⟨⟨SeqAt.canLay_of_shaped hw, Nat.le_refl _⟩, rfl, rfl⟩
  · obtain ⟨i, _, rfl⟩ := List.mem_map.mp z
    exact ⟨⟨rfl, Nat.le_refl _⟩, rfl, rfl⟩
theorem at_snoc {ds : List PyData} {i : Int} (h : AtL ds) (n : Nat) : AtL (ds.take n ++ [.int i]) := fun x hx => by
  rcases List.mem_append.mp hx with z | z
  · exact h x (List.mem_of_mem_take z)
  · rw [List.mem_singleton.mp z]
    exact ⟨⟨rfl, Nat.le_refl _⟩, rfl, rfl⟩
/-- a row of cells, a list or a tuple -/
structure RowAt (S : List Addr) (H : Hp) (x : Addr) (rs : List Int) : Prop where
  da : ∃ d, Da S H (.ref x) d ∧ isSeq d = true ∧ dsOf d = rs.map .int
  sq : H x = some (.tup (rs.map V.int)) ∨ H x = some (.lst (rs.map V.int))
theorem RowAt.tup {S : List Addr} {H : Hp} {x : Addr} {rs : List Int} (e : H x = some (.tup (rs.map V.int))) : RowAt S H x rs := ⟨⟨.tuple (rs.map .int), .tup e (DaL.ints _), rfl, rfl⟩, .inl e⟩
theorem RowAt.lst {S : List Addr} {H : Hp} {x : Addr} {rs : List Int} (e : H x = some (.lst (rs.map V.int))) (n : x ∉ S) : RowAt S H x rs := ⟨⟨.list (rs.map .int), .lst e n (DaL.ints _), rfl, rfl⟩, .inr e⟩
theorem RowAt.kp {S : List Addr} {H H' : Hp} {x : Addr} {rs : List Int} (r : RowAt S H x rs) (k : Kp S H H') : RowAt S H' x rs := by
  obtain ⟨⟨d, h1, h2, h3⟩, h4⟩ := r
  refine ⟨⟨d, h1.kp k, h2, h3⟩, ?_⟩
  cases h1 with
  | lst e n _ =>
    rcases h4 with h | h
    · rw [e] at h; cases h
    · exact .inr (k _ _ h (.inr n))
  | tup e _ =>
    rcases h4 with h | h
    · exact .inl (k.tup h)
    · rw [e] at h; cases h
theorem RowAt.sqE {K : PySem.W.Frag} {S : List Addr} {H : Hp} {x : Addr} {rs : List Int} (r : RowAt S H x rs) : SqE K H x (rs.map V.int) := by
  rcases r.sq with h | h
  · exact .inr (sqT h)
  · exact .inl (sqL h)
theorem RowAt.cells {S : List Addr} {H : Hp} {x : Addr} {rs : List Int} (r : RowAt S H x rs) (hc : Cells rs) : ∃ d, Da S H (.ref x) d ∧ cellsOk d = true ∧ isOf d = rs ∧ (dsOf d).length = rs.length := by
  obtain ⟨d, h1, h2, h3⟩ := r.da
  refine ⟨d, h1, ?_, ?_, ?_⟩
  · unfold cellsOk
    rw [h2, h3, cells_ok hc] <;> rfl
  · unfold isOf
    rw [h3, isOf_ints]
  · rw [h3, List.length_map]
end K16
set_option Elab.async false
set_option linter.all false
set_option maxRecDepth 100000
set_option maxHeartbeats 2000000
namespace K16
open PySem PySem.Spec PyProof.Rows L2 Kb
/-! ### the walk over cells -/
abbrev Ins : Type := Nat × Str × List Int × Int
def wk (ns : List Int) : Nat → Nat → List Ins × Option Nat
  | 0, _ => ([], none)
  | f + 1, n => if n < ns.length then match senseOf ns n with
      | none => ([], some n)
      | some q => ((n, q) :: (wk ns f (n + q.2.2.toNat)).1, (wk ns f (n + q.2.2.toNat)).2)
    else ([], none)
def wkA (ns : List Int) : List Ins × Option Nat := wk ns ns.length 0
def insPy (i : Ins) : PyData := .tuple [.int i.1, .tuple (.str i.2.1 :: i.2.2.1.map .int), .int i.2.2.2]
theorem sense_many {ns : List Int} {n : Nat} {q : Str × List Int × Int} (h : senseOf ns n = some q) : 1 ≤ q.2.2 ∧ q.2.2 ≤ 6 ∧ (n : Int) + q.2.2 ≤ ns.length := by
  unfold senseOf at h
  cases h1 : formL.find? (fun e => decide (e.1 = ns.getD n 0)) with
  | none => rw [h1] at h; cases h
  | some e =>
    rw [h1] at h
    dsimp only at h
    split at h
    · cases h
    · rename_i h2
      split at h
      · cases h
        have ok := form_ok e (List.mem_of_find?_eq_some h1)
        have hw := size_wds ok
        obtain ⟨_, _, _, h4, _, _, h6⟩ := okEn_of ok
        show 1 ≤ size e.2.2 ∧ size e.2.2 ≤ 6 ∧ (n : Int) + size e.2.2 ≤ ns.length
        omega
      · cases h
theorem wk_end {ns : List Int} {f n : Nat} (h : ¬ n < ns.length) : wk ns f n = ([], none) := by
  cases f with
  | zero => rfl
  | succ f =>
    unfold wk
    rw [if_neg h]
theorem wk_none {ns : List Int} {f n : Nat} (h : n < ns.length) (hs : senseOf ns n = none) : wk ns (f + 1) n = ([], some n) := by
  unfold wk
  rw [if_pos h, hs]
theorem wk_some {ns : List Int} {f n : Nat} {q : Str × List Int × Int} (h : n < ns.length) (hs : senseOf ns n = some q) : wk ns (f + 1) n = ((n, q) :: (wk ns f (n + q.2.2.toNat)).1, (wk ns f (n + q.2.2.toNat)).2) := by
  conv => lhs; unfold wk
  rw [if_pos h, hs]
/-- enough turns -/
theorem wk_fuel {ns : List Int} : ∀ {f g n : Nat}, ns.length - n ≤ f → ns.length - n ≤ g → wk ns f n = wk ns g n
  | f, g, n, hf, hg => by
    by_cases h : n < ns.length
    · obtain ⟨f', rfl⟩ : ∃ f', f = f' + 1 := ⟨f - 1, by omega⟩
      obtain ⟨g', rfl⟩ : ∃ g', g = g' + 1 := ⟨g - 1, by omega⟩
      cases hs : senseOf ns n with
      | none => rw [wk_none h hs, wk_none h hs]
      | some q =>
        obtain ⟨h1, h2, h3⟩ := sense_many hs
        rw [wk_some h hs, wk_some h hs, wk_fuel (f := f') (g := g') (n := n + q.2.2.toNat) (by omega) (by omega)]
    · rw [wk_end h, wk_end h]
  termination_by f => f
theorem wk_len {ns : List Int} : ∀ (f n : Nat), (wk ns f n).1.length ≤ f
  | 0, _ => Nat.zero_le _
  | f + 1, n => by
    by_cases h : n < ns.length
    · cases hs : senseOf ns n with
      | none => rw [wk_none h hs]; exact Nat.zero_le _
      | some q =>
        rw [wk_some h hs]
        exact Nat.succ_le_succ (wk_len f _)
    · rw [wk_end h]; exact Nat.zero_le _
theorem wk_pos {ns : List Int} : ∀ (f n : Nat) (i : Ins), i ∈ (wk ns f n).1 → i.1 < ns.length
  | 0, _, _, h => by cases h
  | f + 1, n, i, hi => by
    by_cases h : n < ns.length
    · cases hs : senseOf ns n with
      | none => rw [wk_none h hs] at hi; cases hi
      | some q =>
        rw [wk_some h hs] at hi
        rcases List.mem_cons.mp hi with z | z
        · rw [z]; exact h
        · exact wk_pos f _ i z
    · rw [wk_end h] at hi; cases hi
theorem wk_wrong {ns : List Int} : ∀ (f n m : Nat), (wk ns f n).2 = some m → m < ns.length
  | 0, _, _, h => by cases h
  | f + 1, n, m, hm => by
    by_cases h : n < ns.length
    · cases hs : senseOf ns n with
      | none => rw [wk_none h hs] at hm; cases hm; exact h
      | some q =>
        rw [wk_some h hs] at hm
        exact wk_wrong f _ m hm
    · rw [wk_end h] at hm; cases hm
/-! #### a row's end is a row -/
theorem getD_drop (ns : List Int) (k j : Nat) : (ns.drop k).getD j 0 = ns.getD (k + j) 0 := by
  rw [List.getD_eq_getElem?_getD, List.getD_eq_getElem?_getD, List.getElem?_drop]
theorem decs_drop (ns : List Int) (k : Nat) : ∀ (l : List Str) (j : Nat), decs (ns.drop k) j l = decs ns (k + j) l
  | [], _ => rfl
  | z :: r, j => by
    show decP z ((ns.drop k).getD j 0) ((ns.drop k).getD (j + 1) 0) :: decs (ns.drop k) (j + wd z) r = decP z (ns.getD (k + j) 0) (ns.getD (k + j + 1) 0) :: decs ns (k + j + wd z) r
    rw [getD_drop, getD_drop, decs_drop ns k r (j + wd z), Nat.add_assoc, Nat.add_assoc]
theorem sense_drop (ns : List Int) {k : Nat} (hk : k ≤ ns.length) (n : Nat) : senseOf (ns.drop k) n = senseOf ns (k + n) := by
  unfold senseOf
  rw [getD_drop]
  cases h1 : formL.find? (fun e => decide (e.1 = ns.getD (k + n) 0)) with
  | none => rfl
  | some e =>
    dsimp only
    rw [decs_drop, List.length_drop, show k + (n + 1) = k + n + 1 by omega]
    by_cases h2 : ((ns.length - k : Nat) : Int) < n + size e.2.2
    · rw [if_pos h2, if_pos (show (ns.length : Int) < ((k + n : Nat) : Int) + size e.2.2 by omega)]
    · rw [if_neg h2, if_neg (show ¬ (ns.length : Int) < ((k + n : Nat) : Int) + size e.2.2 by omega)]
theorem wk_drop (ns : List Int) {k : Nat} (hk : k ≤ ns.length) : ∀ (f n : Nat), (wk (ns.drop k) f n).1.map (fun i => k + i.1) = (wk ns f (k + n)).1.map (·.1) ∧ (wk (ns.drop k) f n).2.isSome = (wk ns f (k + n)).2.isSome
  | 0, _ => ⟨rfl, rfl⟩
  | f + 1, n => by
    by_cases h : n < (ns.drop k).length
    · have h' : k + n < ns.length := by rw [List.length_drop] at h; omega
      have e := sense_drop ns hk n
      cases hs : senseOf ns (k + n) with
      | none => rw [wk_none h (e.trans hs), wk_none h' hs]; exact ⟨rfl, rfl⟩
      | some q =>
        rw [wk_some h (e.trans hs), wk_some h' hs]
        obtain ⟨a, b⟩ := wk_drop ns hk f (n + q.2.2.toNat)
        refine ⟨?_, ?_⟩
        · rw [List.map_cons, List.map_cons, a, Nat.add_assoc]
        · rw [Nat.add_assoc]; exact b
    · have h' : ¬ k + n < ns.length := by rw [List.length_drop] at h; omega
      rw [wk_end h, wk_end h']
      exact ⟨rfl, rfl⟩
/-- behind a place that the walk meets: the walk from there -/
theorem wk_tail {ns : List Int} : ∀ (f n j s : Nat), ns.length - n ≤ f → ((wk ns f n).1.map (·.1))[j]? = some s → ((wk ns f n).1.map (·.1)).drop j = (wk ns ns.length s).1.map (·.1)
  | 0, _, _, _, _, h => by simp [wk] at h
  | f + 1, n, j, s, hf, hj => by
    by_cases h : n < ns.length
    · cases hs : senseOf ns n with
      | none => rw [wk_none h hs] at hj; simp at hj
      | some q =>
        obtain ⟨h1, h2, h3⟩ := sense_many hs
        cases j with
        | zero =>
          have e : s = n := by
            rw [wk_some h hs] at hj
            simpa using hj.symm
          rw [e, List.drop_zero, wk_fuel (f := f + 1) (g := ns.length) hf (by omega)]
        | succ j =>
          rw [wk_some h hs, List.map_cons] at hj ⊢
          rw [List.getElem?_cons_succ] at hj
          rw [List.drop_succ_cons]
          exact wk_tail f _ j s (by omega) hj
    · rw [wk_end h] at hj; simp at hj
/-- HEART: two readings that once meet stay together -/
theorem meet {ns : List Int} {k l : Nat} (hk : k ≤ ns.length) (hl : l ≤ ns.length) {i j s : Nat} (h1 : ((wkA (ns.drop k)).1.map fun q => k + q.1)[i]? = some s) (h2 : ((wkA (ns.drop l)).1.map fun q => l + q.1)[j]? = some s) :
    ((wkA (ns.drop k)).1.map fun q => k + q.1).drop i = ((wkA (ns.drop l)).1.map fun q => l + q.1).drop j := by
  unfold wkA at h1 h2 ⊢
  rw [(wk_drop ns hk _ 0).1] at h1 ⊢
  rw [(wk_drop ns hl _ 0).1] at h2 ⊢
  rw [wk_tail _ _ i s (by rw [List.length_drop]; omega) h1, wk_tail _ _ j s (by rw [List.length_drop]; omega) h2]
/-! #### data -/
theorem ins_shaped (i : Ins) (hw : SeqAt.shaped (.str i.2.1) = true) : (insPy i).canLay0 = true ∧ (insPy i).depth ≤ 2 := by
  have hL : okL 0 (.str i.2.1 :: i.2.2.1.map .int) := fun x hx => by
    rcases List.mem_cons.mp hx with z | z
    · subst z
      exact ⟨SeqAt.canLay_of_shaped hw, Nat.le_refl _⟩
    · obtain ⟨i, _, rfl⟩ := List.mem_map.mp z
      exact ⟨rfl, Nat.le_refl _⟩
  obtain ⟨h1, h2⟩ := okL_all hL
  have hL2 : okL 1 [.int i.1, .tuple (.str i.2.1 :: i.2.2.1.map .int), .int i.2.2.2] := fun x hx => by
    simp only [List.mem_cons, List.not_mem_nil, or_false] at hx
    rcases hx with z | z | z
    · subst z
      exact ⟨rfl, Nat.zero_le _⟩
    · subst z
      exact ⟨h1, Nat.succ_le_succ h2⟩
    · subst z
      exact ⟨rfl, Nat.zero_le _⟩
  obtain ⟨h3, h4⟩ := okL_all hL2
  exact ⟨h3, Nat.succ_le_succ h4⟩
theorem sense_word {ns : List Int} {n : Nat} {q : Str × List Int × Int} (h : senseOf ns n = some q) : SeqAt.shaped (.str q.1) = true := by
  unfold senseOf at h
  cases h1 : formL.find? (fun e => decide (e.1 = ns.getD n 0)) with
  | none => rw [h1] at h; cases h
  | some e =>
    rw [h1] at h
    dsimp only at h
    split at h
    · cases h
    · split at h
      · cases h
        exact List.all_eq_true.mp form_words e (List.mem_of_find?_eq_some h1)
      · cases h
theorem wk_word {ns : List Int} : ∀ (f n : Nat) (i : Ins), i ∈ (wk ns f n).1 → SeqAt.shaped (.str i.2.1) = true
  | 0, _, _, h => by cases h
  | f + 1, n, i, hi => by
    by_cases h : n < ns.length
    · cases hs : senseOf ns n with
      | none => rw [wk_none h hs] at hi; cases hi
      | some q =>
        rw [wk_some h hs] at hi
        rcases List.mem_cons.mp hi with z | z
        · rw [z]; exact sense_word hs
        · exact wk_word f _ i z
    · rw [wk_end h] at hi; cases hi
theorem wk_shaped (ns : List Int) : SeqAt.shaped (.tuple ((wkA ns).1.map insPy)) = true := by
  have hL : okL 2 ((wkA ns).1.map insPy) := fun x hx => by
    obtain ⟨i, hi, rfl⟩ := List.mem_map.mp hx
    exact ins_shaped i (wk_word _ _ i hi)
  obtain ⟨h1, h2⟩ := okL_all hL
  unfold SeqAt.shaped
  have e1 : (PyData.tuple ((wkA ns).1.map insPy)).canLay0 = true := h1
  have e2 : (PyData.tuple ((wkA ns).1.map insPy)).depth ≤ 64 := by
    show PyData.depthAll _ + 1 ≤ 64
    omega
  rw [e1, decide_eq_true e2] <;> rfl
end K16
set_option Elab.async false
set_option linter.all false
set_option maxRecDepth 100000
set_option maxHeartbeats 4000000
namespace K16
open PySem PySem.Spec PyProof.Rows L2 Kb
section
variable {S S' : List Addr} {H : Hp}
mutual
theorem Da.sub (h : ∀ b ∈ S', b ∈ S) : ∀ {d : PyData} {x : V}, Da S H x d → Da S' H x d
  | .none, _, .non => .non
  | .bool _, _, .bl _ => .bl _
  | .int _, _, .int _ => .int _
  | .str _, _, .str _ => .str _
  | .list _, _, .lst e n q => .lst e (fun m => n (h _ m)) (DaL.sub h q)
  | .tuple _, _, .tup e q => .tup e (DaL.sub h q)
theorem DaL.sub (h : ∀ b ∈ S', b ∈ S) : ∀ {ds : List PyData} {xs : List V}, DaL S H xs ds → DaL S' H xs ds
  | [], _, .nil => .nil
  | _ :: _, _, .cons a r => .cons (Da.sub h a) (DaL.sub h r)
end
end
/-- data of tuples alone: stays whatever changes -/
theorem DaL.any {H H' : Hp} {T : List Addr} {xs : List V} {ds : List PyData} (k : Kp T H H') (h : ∀ S, DaL S H xs ds) (S : List Addr) : DaL S H' xs ds :=
  DaL.sub (fun b m => List.mem_append_left T m) ((h (S ++ T)).kp (k.mono fun b m => List.mem_append_right S m))
theorem Da.any {H H' : Hp} {T : List Addr} {x : V} {d : PyData} (k : Kp T H H') (h : ∀ S, Da S H x d) (S : List Addr) : Da S H' x d :=
  Da.sub (fun b m => List.mem_append_left T m) ((h (S ++ T)).kp (k.mono fun b m => List.mem_append_right S m))
theorem DaL.snoc {S : List Addr} {H : Hp} {xs : List V} {ds : List PyData} {x : V} {d : PyData} (h : DaL S H xs ds) (hx : Da S H x d) : DaL S H (xs ++ [x]) (ds ++ [d]) := h.app (.cons hx .nil)
theorem sense_py {q : Str × List Int × Int} : sensePy (some q) = .tuple [.tuple (.str q.1 :: q.2.1.map .int), .int q.2.2] := rfl
theorem da_sense {H : Hp} {x : V} {q : Str × List Int × Int} (h : ∀ S, Da S H x (sensePy (some q))) : ∃ a T, x = .ref a ∧ H a = some (.tup [T, .int q.2.2]) ∧ ∀ S, Da S H T (.tuple (.str q.1 :: q.2.1.map .int)) := by
  have h0 := h []
  rw [sense_py] at h0
  cases h0 with
  | @tup a xs ds e hD =>
    cases hD with
    | @cons v vs d ds h1 h2 =>
      cases h2 with
      | @cons v2 vs2 d2 ds2 h3 h4 =>
        cases h4
        cases h3
        refine ⟨a, v, rfl, e, fun S => ?_⟩
        have hS := h S
        rw [sense_py] at hS
        cases hS with
        | tup e2 hD2 =>
          rw [e] at e2
          cases e2
          cases hD2 with
          | cons h5 _ => exact h5
section
variable {P : Program} {w : World} {K : PySem.W.Frag} {mg : Str → Option Value} {base : Heap}
/-! ### parted -/
def spParted (P1 CC CB : Addr) : Sp := fun vs H Q E => ∃ S x d, vs = [x] ∧ Da S H x d ∧ P1 ∈ S ∧ GxR.TabG H P1 ∧ (dsOf d).length ≤ 900 ∧
  (cellsOk d = false → ∀ H', Kp [P1] H H' → GxR.TabG H' P1 → E (.ref CC) none H') ∧
  (cellsOk d = true → ∀ (m : Nat) H' dd, (wkA (isOf d)).2 = some m → Kp [P1] H H' → GxR.TabG H' P1 → H' dd = none → E (.ref CB) (some dd) (upd H' dd (.xd [("at", .int m)]))) ∧
  (cellsOk d = true → (wkA (isOf d)).2 = none → ∀ x' H', Kp [P1] H H' → GxR.TabG H' P1 → (∀ S', Da S' H' x' (.tuple ((wkA (isOf d)).1.map insPy))) → Q x' H')
theorem fits_nat {m : Nat} (h : m ≤ 1000) : KbAt.Fits (m : Int) := KbAt.fits_of (by
  rw [Int.natAbs_natCast]
  exact Nat.lt_of_le_of_lt (Nat.log2_le_self m) (by omega))
theorem ok_parted {f f1 f3 fI cc cda P1 CC CB : Addr} {q : Str} {z : KbAt.Ps} {fd fd1 fd3 : FuncData} {k : Nat} (F : Fun K "parted" "parted" s_parted f fd) (T : Bi mg) (EC : Ec K mg "BadCells" CC) (TB : KbAt.Txt P K CB fI cc cda q z) (gB : mg "BadCode" = some (.ref CB)) (gs : mg "super" = none)
    (F1 : Fun K "are_cells" "are_cells" s_are_cells f1 fd1) (b1 : Binds K fd1 ["thing"] []) (g1 : mg "are_cells" = some (.ref f1)) (G1 : FnOk P w K mg base CX0 (k + 7) f1 fd1 ["thing"] (spAreCells P1))
    (F3 : Fun K "sense_in" "sense_in" s_sense_in f3 fd3) (b3 : Binds K fd3 ["cells", "at"] []) (g3 : mg "sense_in" = some (.ref f3)) (G3 : FnOk P w K mg base CX0 (k + 4) f3 fd3 ["cells", "at"] (spSenseIn K)) :
    FnOk P w K mg base (L2.CX P w) (k + 8) f fd ["cells"] (spParted P1 CC CB) := by
  refine F.okX sc_parted (fun vs H Q E h => ?_) (fun cdv A outer s H vs Q E hr h => ?_)
  · obtain ⟨_, _, _, rfl, _⟩ := h
    rfl
  · obtain ⟨S, x, d, rfl, hx, hP, hG, hlen, qC, qB, qS⟩ := h
    refine ⟨_, (pss_cons (ps_if (pt_not (pt_val (pe_call G1 hr (by rfl) g1 F1.kp b1 .nil pass0 (pa_cons (pv 0) pa_nil)))) (pss_one (ps_raise rfl (takes_of rfl rfl rfl rfl) (pmk_own PySem.F.excBase_ValueError EC.exc EC.g EC.kp (raises_own EC.sub EC.ty) (by rfl)))) pss_nil)
      (pss_cons (ps_set (i := 1) sc_parted.nd rfl (.inl rfl) (pe_lst pa_nil))
      (pss_cons (ps_set (i := 2) sc_parted.nd rfl (.inl rfl) pe_int)
      (pss_cons (ps_while (passes_of rfl) (pt_cmpR op_lt (pv 2) (pe_callB call_len (by rfl) T.m_len (by decide +kernel) (pa_cons (pv 0) pa_nil)) (nomark _)) (pss_cons (ps_set (i := 3) sc_parted.nd rfl (.inl rfl) (pe_call G3 (hr.mono (by omega)) (by rfl) g3 F3.kp b3 .nil pass0 (pa_cons (pv 0) (pa_cons (pv 2) pa_nil))))
        (pss_cons (ps_if (pt_cmpR op_isN (pv 3) pe_non (nomark _)) (pss_one (ps_raise rfl (takes_of rfl rfl rfl rfl) (KbAt.pmk (nm := "BadCode") TB gB gs (k := k) (hr.mono (by omega)) (pa_cons (pv 2) pa_nil) (by rfl)))) pss_nil)
        (pss_cons (ps_asg (pv 3) (pg_tup (by rfl) (pgs_cons (pg_name (i := 4) sc_parted.nd rfl (.inl rfl)) (pgs_cons (pg_name (i := 5) sc_parted.nd rfl (.inl rfl)) pgs_nil))))
        (pss_cons (ps_expr (pe_bm PySem.F.plainAttrs_list PySem.F.slot_list_append PySem.F.type_list_append mt_append (pv 1) (pa_cons (pe_tup (pa_cons (pv 2) (pa_cons (pv 4) (pa_cons (pv 5) pa_nil)))) pa_nil)))
        (pss_one (ps_aug (i := 2) sc_parted.nd rfl (.inl rfl) (pv 5) ip_add)))))))
      (pss_one (ps_ret (pe_callTy call_tuple_of (by rfl) T.m_tuple (by decide +kernel) (pa_cons (pv 1) pa_nil)))))))), ?_⟩
    refine ⟨x, rfl, S, x, d, rfl, hx, hP, hG, fun H1 k1 g1 => ⟨_, rfl, ?_⟩⟩
    have k1S : Kp S H H1 := k1.mono fun b hb => List.mem_singleton.mp hb ▸ hP
    cases hc : cellsOk d with
    | false =>
      refine ite2 (fun _ => ?_) fun y => absurd rfl y
      exact qC hc H1 k1 g1
    | true =>
      refine ite2 (fun y => Bool.noConfusion y) fun _ => ?_
      obtain ⟨a, ns, rfl, ens, hC, hsq⟩ := hx.cells (K := K) hc
      have hl : (dsOf d).length = ns.length := by rw [ens, List.length_map]
      have eI : isOf d = ns := by
        unfold isOf
        rw [ens, isOf_ints]
      rw [eI] at qB qS
      have qB := qB hc
      have qS := qS hc
      have hs : isSeq d = true := by
        unfold cellsOk at hc
        exact (Bool.and_eq_true_iff.mp hc).1
      refine ⟨small (by show 0 ≤ 1000; omega), fun l nl => ?_⟩
      have nl0 : l ≠ P1 := fun e => by
        obtain ⟨ps, e2, _⟩ := g1
        rw [e, e2] at nl
        cases nl
      refine ⟨fun m σ H' => ∃ (n : Nat) (xs : List V) (is : List Ins) (y3 y4 y5 : Option V), m = ns.length - n ∧ σ = [some (.ref a), some (.ref l), some (.int n), y3, y4, y5] ∧ H' l = some (.lst xs) ∧ Kp [P1] H H' ∧ GxR.TabG H' P1 ∧ (∀ S', DaL S' H' xs (is.map insPy)) ∧ is.length ≤ n ∧ n ≤ ns.length ∧
        wkA ns = (is ++ (wk ns ns.length n).1, (wk ns ns.length n).2), ⟨_, 0, [], [], _, _, _, rfl, rfl, upd_same, k1.trans (Kp.new nl), tabG_kp g1 (Kp.new nl), fun S' => .nil, Nat.le_refl _, Nat.zero_le _, rfl⟩, ?_⟩
      rintro m σ H2 ⟨n, xs, is, y3, y4, y5, rfl, rfl, el, k2, g2, hD, hin, hnl, hw⟩
      have k2S : Kp S H H2 := k2.mono fun b hb => List.mem_singleton.mp hb ▸ hP
      refine ⟨.int n, rfl, .ref a, rfl, .ref a, ns.length, rfl, by rw [← hl]; exact len_of (hx.kp k2S) hs, _, _, rfl, rfl, _, rfl, ite2 (fun lt => ?_) (fun ge => ?_)⟩
      · have lt : n < ns.length := by
          have := of_decide_eq_true lt
          omega
        refine ⟨_, fun σ' H' h => h, ?_⟩
        have hf : wk ns ns.length n = wk ns (ns.length - 1 + 1) n := by rw [show ns.length - 1 + 1 = ns.length by omega]
        refine ⟨.ref a, rfl, .int n, rfl, a, n, ns, rfl, hsq H2 k2S, lt, by omega, hC, fun x3 H3 k3 hd3 => ?_⟩
        have kk3 := k2.trans k3.of
        have g3 := tabG_kp g2 k3
        cases hse : senseOf ns n with
        | none =>
          rw [hse] at hd3
          have e3 : x3 = .non := by
            have := hd3 []
            cases this
            rfl
          subst e3
          refine ⟨.non, rfl, rfl, _, rfl, ite2 (fun _ => ?_) (fun e => absurd (decide_eq_true rfl) e)⟩
          refine ⟨.int n, rfl, (n : Int), rfl, fits_nat (by omega), fun dd nd => ?_⟩
          exact qB n H3 dd (by rw [hw, hf, wk_none lt hse]) kk3 g3 nd
        | some qq =>
          rw [hse] at hd3
          obtain ⟨h1, h2, h3⟩ := sense_many hse
          obtain ⟨a3, T3, rfl, e3, hT⟩ := da_sense hd3
          refine ⟨.ref a3, rfl, rfl, _, rfl, ite2 (fun e => ?_) (fun _ => ?_)⟩
          · cases of_decide_eq_true e
          have el3 := k3 l _ el (.inr List.not_mem_nil)
          refine ⟨.ref a3, rfl, a3, _, rfl, sqT e3, rfl, _, _, rfl, _, _, rfl, rfl, ?_⟩
          have hxl : xs.length = is.length := by
            have := (hD []).len
            rw [List.length_map] at this
            exact this
          refine ⟨.ref l, rfl, .inl ⟨rfl, _, sqL el3⟩, .int n, rfl, T3, rfl, .int qq.2.2, rfl, small (by show 3 ≤ 1000; omega), fun t nt => ?_⟩
          have ntl : l ≠ t := fun e => by rw [← e, el3] at nt; cases nt
          refine ⟨l, _, _, rfl, rfl, (by rw [upd_ne ntl]; exact el3), small1000 (by rw [hxl]; omega), ?_⟩
          have k4 : Kp [] H3 (upd H3 t (.tup [.int n, T3, .int qq.2.2])) := Kp.new nt
          have k5 : Kp [l] H3 (upd (upd H3 t (.tup [.int n, T3, .int qq.2.2])) l (.lst (xs ++ [.ref t]))) := k4.of.set (List.mem_singleton.mpr rfl) fun u e => by
            rw [upd_ne ntl, el3] at e
            cases e
            rfl
          have kP : Kp [P1] H (upd (upd H3 t (.tup [.int n, T3, .int qq.2.2])) l (.lst (xs ++ [.ref t]))) := fun b o e hb => by
            by_cases hbl : b = l
            · subst hbl
              have z : H1 b = some o := k1 b o e hb
              rw [nl] at z
              cases z
            · rw [upd_ne hbl]
              exact k4 b o (kk3 b o e hb) (.inr List.not_mem_nil)
          refine ⟨.int n, rfl, .int qq.2.2, rfl, n, qq.2.2, rfl, rfl, ?_⟩
          refine ⟨ns.length - (n + qq.2.2.toNat), by omega, n + qq.2.2.toNat, xs ++ [.ref t], is ++ [(n, qq)], some (.ref a3), some T3, some (.int qq.2.2), rfl, ?_, upd_same, kP, tabG_kp' g3 k5 (fun m => nl0 (List.mem_singleton.mp m).symm), fun S' => ?_, by rw [List.length_append]; show is.length + 1 ≤ _; omega, by omega, ?_⟩
          · have : ((n + qq.2.2.toNat : Nat) : Int) = (n : Int) + qq.2.2 := by omega
            rw [this]
            rfl
          · rw [List.map_append]
            refine DaL.snoc (DaL.any k5 (fun S => DaL.any k3 hD S) S') ?_
            refine .tup (xs := [.int n, T3, .int qq.2.2]) (by rw [upd_ne (Ne.symm ntl), upd_same]) (.cons (.int _) (.cons (Da.any k5 hT S') (.cons (.int _) .nil)))
          · rw [hw, hf, wk_some lt hse, wk_fuel (f := ns.length - 1) (g := ns.length) (n := n + qq.2.2.toNat) (by omega) (by omega), List.append_assoc]
            rfl
      · have ge : ¬ n < ns.length := fun lt => ge (decide_eq_true (by omega))
        refine ⟨.ref l, rfl, l, xs, rfl, .inl ⟨sqL el, fun t nt => ?_⟩⟩
        rw [wk_end ge, List.append_nil] at hw
        refine qS (by rw [hw]) (.ref t) _ (k2.trans (Kp.new nt)) (tabG_kp g2 (Kp.new nt)) fun S' => ?_
        rw [hw]
        exact .tup upd_same (DaL.any (Kp.new (S := []) nt) hD S')
end
end K16
set_option Elab.async false
set_option linter.all false
set_option maxRecDepth 100000
set_option maxHeartbeats 4000000
namespace K16
open PySem PySem.Spec PyProof.Rows L2 Kb
def wrV : Option Nat → V
  | none => .non
  | some m => .int m
section
variable {P : Program} {w : World} {K : PySem.W.Frag} {mg : Str → Option Value} {base : Heap}
/-! ### _law_walked -/
def spWalked (K : PySem.W.Frag) : Sp := fun vs H Q _ => ∃ (a : Addr) (ns : List Int), vs = [.ref a] ∧ SqE K H a (ns.map V.int) ∧ ns.length ≤ 900 ∧ Cells ns ∧
  ∀ H' p l xs, Kp [] H H' → H' p = some (.tup [.ref l, wrV (wkA ns).2]) → H l = none → H' l = some (.lst xs) → (∀ S', DaL S' H' xs ((wkA ns).1.map insPy)) → Q (.ref p) H'
theorem ok_walked {f f3 : Addr} {fd fd3 : FuncData} {k : Nat} (F : Fun K "_law_walked" "_law_walked" s_l_walked f fd) (T : Bi mg)
    (F3 : Fun K "_law_sense" "_law_sense" s_l_sense f3 fd3) (b3 : Binds K fd3 ["cells", "at"] []) (g3 : mg "_law_sense" = some (.ref f3)) (G3 : FnOk P w K mg base CX0 (k + 2) f3 fd3 ["cells", "at"] (spSenseIn K)) :
    FnOk P w K mg base CX0 (k + 3) f fd ["cells"] (spWalked K) := by
  refine F.ok sc_l_walked (fun vs H Q E h => ?_) (fun cdv A outer s H vs Q E hr h => ?_)
  · obtain ⟨_, _, rfl, _⟩ := h
    rfl
  · obtain ⟨a, ns, rfl, hS, hlen, hC, q⟩ := h
    refine ⟨_, (pss_cons (ps_par (i := 1) (j := 2) (by rfl) sc_l_walked.nd rfl rfl (by decide) rfl rfl (pa_cons (pe_lst pa_nil) (pa_cons pe_int pa_nil)) (by rfl))
      (pss_cons (ps_while PassesOwn.never (pt_cmpR op_lt (pv 2) (pe_callB call_len (by rfl) T.m_len (by decide +kernel) (pa_cons (pv 0) pa_nil)) (nomark _)) (pss_cons (ps_set (i := 3) sc_l_walked.nd rfl (.inl rfl) (pe_call G3 hr (by rfl) g3 F3.kp b3 .nil pass0 (pa_cons (pv 0) (pa_cons (pv 2) pa_nil))))
        (pss_cons (ps_if (pt_cmpR op_isN (pv 3) pe_non (nomark _)) (pss_one (ps_ret (pe_tup (pa_cons (pv 1) (pa_cons (pv 2) pa_nil))))) pss_nil)
        (pss_cons (ps_expr (pe_bm PySem.F.plainAttrs_list PySem.F.slot_list_append PySem.F.type_list_append mt_append (pv 1) (pa_cons (pe_op op_catA (pe_tup (pa_cons (pv 2) pa_nil)) (pv 3)) pa_nil)))
        (pss_one (ps_set (i := 2) sc_l_walked.nd rfl (.inl rfl) (pe_op op_add (pv 2) (pe_ix ix_seq (pv 3) pe_int (fun _ _ => rfl)))))))))
      (pss_one (ps_ret (pe_tup (pa_cons (pv 1) (pa_cons pe_non pa_nil))))))), ?_⟩
    have lenV := List.length_map (as := ns) V.int
    have lenOf : ∀ {H' : Hp}, Kp [] H H' → LenV K (.ref a) H' ns.length := fun k => by
      rcases hS.kp k with h | h
      · exact .inl ⟨_, h, lenV.symm⟩
      · exact .inr ⟨_, h, lenV.symm⟩
    refine ⟨small (by show 0 ≤ 1000; omega), fun l nl => ⟨.ref l, .int 0, rfl, ?_⟩⟩
    refine ⟨fun m σ H' => ∃ (n : Nat) (xs : List V) (is : List Ins) (y3 : Option V), m = ns.length - n ∧ σ = [some (.ref a), some (.ref l), some (.int n), y3] ∧ H' l = some (.lst xs) ∧ Kp [] H H' ∧ (∀ S', DaL S' H' xs (is.map insPy)) ∧ is.length ≤ n ∧ n ≤ ns.length ∧
      wkA ns = (is ++ (wk ns ns.length n).1, (wk ns ns.length n).2), ⟨_, 0, [], [], _, rfl, rfl, upd_same, Kp.new nl, fun S' => .nil, Nat.le_refl _, Nat.zero_le _, rfl⟩, ?_⟩
    rintro m σ H2 ⟨n, xs, is, y3, rfl, rfl, el, k2, hD, hin, hnl, hw⟩
    refine ⟨.int n, rfl, .ref a, rfl, .ref a, ns.length, rfl, lenOf k2, _, _, rfl, rfl, _, rfl, ite2 (fun lt => ?_) (fun ge => ?_)⟩
    · have lt : n < ns.length := by
        have := of_decide_eq_true lt
        omega
      refine ⟨_, fun σ' H' h => h, ?_⟩
      have hf : wk ns ns.length n = wk ns (ns.length - 1 + 1) n := by rw [show ns.length - 1 + 1 = ns.length by omega]
      refine ⟨.ref a, rfl, .int n, rfl, a, n, ns, rfl, hS.kp k2, lt, by omega, hC, fun x3 H3 k3 hd3 => ?_⟩
      have kk3 := k2.trans k3
      have el3 := k3 l _ el (.inr List.not_mem_nil)
      cases hse : senseOf ns n with
      | none =>
        rw [hse] at hd3
        have e3 : x3 = .non := by
          have := hd3 []
          cases this
          rfl
        subst e3
        refine ⟨.non, rfl, rfl, _, rfl, ite2 (fun _ => ?_) (fun e => absurd (decide_eq_true rfl) e)⟩
        refine ⟨.ref l, rfl, .int n, rfl, small (by show 2 ≤ 1000; omega), fun t nt => ?_⟩
        rw [hf, wk_none lt hse, List.append_nil] at hw
        refine q _ t l xs (kk3.trans (Kp.new nt)) (by rw [upd_same, hw]; rfl) nl (by rw [upd_ne (ne_of_none el3 nt)]; exact el3) fun S' => ?_
        rw [hw]
        exact DaL.any (Kp.new (S := []) nt) (fun S => DaL.any k3 hD S) S'
      | some qq =>
        rw [hse] at hd3
        obtain ⟨h1, h2, h3⟩ := sense_many hse
        obtain ⟨a3, T3, rfl, e3, hT⟩ := da_sense hd3
        refine ⟨.ref a3, rfl, rfl, _, rfl, ite2 (fun e => ?_) (fun _ => ?_)⟩
        · cases of_decide_eq_true e
        have hxl : xs.length = is.length := by
          have := (hD []).len
          rw [List.length_map] at this
          exact this
        refine ⟨.ref l, rfl, .inl ⟨rfl, _, sqL el3⟩, .int n, rfl, small (by show 1 ≤ 1000; omega), fun t nt => ⟨.ref a3, rfl, catA upd_same ((Kp.new (S := []) nt).tup e3) (by show 1 + 2 ≤ 1000; omega) fun r H5 k5 e5 => ?_⟩⟩
        have k35 : Kp [] H3 H5 := (Kp.new nt).trans k5
        have el5 := k35 l _ el3 (.inr List.not_mem_nil)
        refine ⟨l, _, _, rfl, rfl, el5, small1000 (by rw [hxl]; omega), ?_⟩
        have k6 : Kp [l] H5 (upd H5 l (.lst (xs ++ [.ref r]))) := Kp.refl.set (List.mem_singleton.mpr rfl) fun u e => by
          rw [el5] at e
          cases e
          rfl
        have k36 : Kp [l] H3 (upd H5 l (.lst (xs ++ [.ref r]))) := k35.of.trans k6
        have kP : Kp [] H (upd H5 l (.lst (xs ++ [.ref r]))) := fun b o e hb => by
          by_cases hbl : b = l
          · subst hbl
            rw [nl] at e
            cases e
          · rw [upd_ne hbl]
            exact k35 b o (kk3 b o e hb) (.inr List.not_mem_nil)
        refine ⟨.int n, rfl, .ref a3, rfl, ixE (n := 1) (.inr (sqT (k36.tup e3))) rfl ⟨n, qq.2.2, rfl, rfl, ?_⟩⟩
        refine ⟨ns.length - (n + qq.2.2.toNat), by omega, n + qq.2.2.toNat, xs ++ [.ref r], is ++ [(n, qq)], some (.ref a3), rfl, ?_, upd_same, kP, fun S' => ?_, by rw [List.length_append]; show is.length + 1 ≤ _; omega, by omega, ?_⟩
        · have : ((n + qq.2.2.toNat : Nat) : Int) = (n : Int) + qq.2.2 := by omega
          rw [this]
          rfl
        · rw [List.map_append]
          refine DaL.snoc (DaL.any k36 (fun S => DaL.any k3 hD S) S') ?_
          exact .tup (xs := [.int n, T3, .int qq.2.2]) (k6.tup e5) (.cons (.int _) (.cons (Da.any k36 hT S') (.cons (.int _) .nil)))
        · rw [hw, hf, wk_some lt hse, wk_fuel (f := ns.length - 1) (g := ns.length) (n := n + qq.2.2.toNat) (by omega) (by omega), List.append_assoc]
          rfl
    · have ge : ¬ n < ns.length := fun lt => ge (decide_eq_true (by omega))
      refine ⟨.ref l, rfl, small (by show 2 ≤ 1000; omega), fun t nt => ?_⟩
      rw [wk_end ge, List.append_nil] at hw
      refine q _ t l xs (k2.trans (Kp.new nt)) (by rw [upd_same, hw]; rfl) nl (by rw [upd_ne (ne_of_none el nt)]; exact el) fun S' => ?_
      rw [hw]
      exact DaL.any (Kp.new (S := []) nt) hD S'
end
end K16
set_option Elab.async false
set_option linter.all false
set_option maxRecDepth 100000
set_option maxHeartbeats 2000000
namespace K16
open PySem PySem.Spec PyProof.Rows L2 Kb
section
variable {P : Program} {w : World} {K : PySem.W.Frag} {mg : Str → Option Value} {base : Heap}
/-! ### _law_is_walk -/
def spIsWalk (P1 P2 : Addr) : Sp := fun vs H Q _ => ∃ S a rs, vs = [.ref a] ∧ RowAt S H a rs ∧ Cells rs ∧ rs.length ≤ 900 ∧ P1 ∈ S ∧ P2 ∈ S ∧ P1 ≠ P2 ∧ GxR.TabG H P1 ∧ LamX.TabS H P2 qTold ∧
  ∀ H', Kp [P1, P2] H H' → GxR.TabG H' P1 → LamX.TabS H' P2 qTold → Q (.bl true) H'
theorem ok_is_walk {f f1 f2 f3 c2 P1 P2 CC CB CL : Addr} {fd fd1 fd2 fd3 : FuncData} {k : Nat} (F : Fun K "_law_is_walk" "_law_is_walk" s_l_is_walk f fd) (T : Bi mg) (hc : fd.code = .ref c2) (TB : LamX.TabB base mg c2 P2) (gB : mg "BadCode" = some (.ref CB)) (XB : ExcC K CB) (nB : PySem.W.findIn K (.ref CB) "at" = some none) (gL : mg "LinkError" = some (.ref CL)) (hCL : PySem.W.exmOne K (.ref CC) (.ref CL) = some true) (hBL : PySem.W.exmOne K (.ref CB) (.ref CL) = some true)
    (F1 : Fun K "_law_walked" "_law_walked" s_l_walked f1 fd1) (b1 : Binds K fd1 ["cells"] []) (g1 : mg "_law_walked" = some (.ref f1)) (G1 : FnOk P w K mg base CX0 (k + 3) f1 fd1 ["cells"] (spWalked K))
    (F2 : Fun K "_law_caught" "_law_caught" s_l_caught f2 fd2) (b2 : Binds K fd2 ["act"] []) (g2 : mg "_law_caught" = some (.ref f2))
    (F3 : Fun K "parted" "parted" s_parted f3 fd3) (b3 : Binds K fd3 ["cells"] []) (g3 : mg "parted" = some (.ref f3)) (G3 : FnOk P w K mg base (L2.CX P w) (k + 8) f3 fd3 ["cells"] (spParted P1 CC CB)) :
    FnOk P w K mg base CX0 (k + 13) f fd ["cells"] (spIsWalk P1 P2) := by
  refine okC0 F hc sc_l_is_walk (fun vs H Q E h => ?_) (fun A outer s H vs Q E hr h => ?_)
  · obtain ⟨_, _, _, rfl, _⟩ := h
    rfl
  · obtain ⟨S, a, rs, rfl, hR, hC, hlen, hP1, hP2, n12, hG, hT, q⟩ := h
    obtain ⟨oc, od, kV, doc, pm, an, cdg, ctg, osl, rfl, lk, hcg⟩ := F2.ex
    refine ⟨_, (pss_cons (ps_asg (pe_call G1 (hr.mono (by omega)) (by rfl) g1 F1.kp b1 .nil pass0 (pa_cons (pv 0) pa_nil)) (pg_tup (by rfl) (pgs_cons (pg_name (i := 1) sc_l_is_walk.nd rfl (.inl rfl)) (pgs_cons (pg_name (i := 2) sc_l_is_walk.nd rfl (.inl rfl)) pgs_nil))))
      (pss_cons (ps_set (i := 3) sc_l_is_walk.nd rfl (.inl rfl) (pe_lamcall1 (x := "_law_caught") (a := "act") (k := k + 8) (t := fun E => tCall (spParted P1 CC CB) [] E (tCons (tVar 0) tNil)) (by rfl) g2 F2.kp lk hcg b2 sc_l_caught rfl (.inl rfl) (caught_gives gL) TB rfl (hr.mono (by omega)) (LamX.lamS_by (by rfl)) (by rfl) (fun _ _ _ _ _ => rfl)
        (fun A outer s H E f c' hr' => by exact pe_call G3 hr' (by rfl) g3 F3.kp b3 .nil (passes_call (takes_of rfl rfl rfl rfl) (fun _ _ _ _ h => h)) (pa_cons (pv 0) pa_nil))))
      (pss_one (ps_ret (pe_ifExp (pt_cmpR op_isN (pv 2) pe_non (nomark _)) (pe_cmpR (op_eqD hr.units) (pv 3) (pe_callTy call_tuple_of (by rfl) T.m_tuple (by decide +kernel) (pa_cons (pv 1) pa_nil)) (nomark _)) (pe_and (pe_callB KbAt.call_isD (by rfl) T.m_isinstance (by decide +kernel) (pa_cons (pv 3) (pa_cons (pe_glob (v := .ref CB) (by rfl) gB rfl) pa_nil))) (pe_one (pe_cmpR op_eq (KbAt.pe_at (pv 3)) (pv 2) (nomark _))))))))), ?_⟩
    refine ⟨.ref a, rfl, a, rs, rfl, hR.sqE, hlen, hC, fun H1 p l xs k1 ep nl el hD => ?_⟩
    refine ⟨p, _, rfl, sqT ep, rfl, _, _, rfl, _, _, rfl, rfl, ?_⟩
    have hT1 := hT.ext k1.same
    have hG1 := tabG_kp hG k1
    refine ⟨hT1, fun H2 e2 hT2 => ?_⟩
    have k2 : Kp [P2] H1 H2 := Kp.ofExtP hT1 e2
    have k02 : Kp [P2] H H2 := k1.of.trans k2
    have hG2 : GxR.TabG H2 P1 := tabG_kp' hG1 k2 fun m => n12 (List.mem_singleton.mp m)
    have hR2 := hR.kp (k02.mono fun b hb => List.mem_singleton.mp hb ▸ hP2)
    have nlP2 : l ∉ [P2] := fun m => by
      obtain ⟨ps, e, _⟩ := hT1
      rw [← List.mem_singleton.mp m, el] at e
      cases e
    have el2 := k2 l _ el (.inr nlP2)
    have nlP1 : l ∉ [P1] := fun m => by
      obtain ⟨ps, e, _⟩ := hG1
      rw [← List.mem_singleton.mp m, el] at e
      cases e
    obtain ⟨dd, hda, hck, hio, hdl⟩ := hR2.cells hC
    have fin : ∀ H', Kp [P1] H2 H' → Kp [P1, P2] H H' := fun H' k => (k02.mono fun b hb => by rw [List.mem_singleton.mp hb]; simp).trans (k.mono fun b hb => by rw [List.mem_singleton.mp hb]; simp)
    have tabS2 : ∀ H', Kp [P1] H2 H' → LamX.TabS H' P2 qTold := fun H' k => tabS_kp' hT2 k fun m => n12 (List.mem_singleton.mp m).symm
    refine ⟨.ref a, rfl, S, .ref a, dd, rfl, hda, hP1, hG2, by omega, (fun hc => by rw [hck] at hc; cases hc), fun _ m H3 d3 hm k3 g3 nd3 => ⟨hBL, fun ea na => ?_⟩, fun _ hm x3 H3 k3 g3 hd3 => ?_⟩
    · -- BadCode
      rw [hio] at hm
      have e1 : wrV (wkA rs).2 = .int m := by rw [hm] <;> rfl
      rw [e1]
      have ne : d3 ≠ ea := fun e => by rw [e, upd_same] at na; cases na
      refine ⟨.int m, rfl, rfl, _, rfl, ite2 (fun e => by cases of_decide_eq_true e) (fun _ => ?_)⟩
      refine ⟨.ref ea, rfl, ea, CB, d3, _, .ref CB, .ref CB, true, rfl, upd_same, (by rw [upd_ne ne, upd_same]), XB, fun u hu => hu, kit_self, _, rfl, ?_⟩
      refine ⟨.ref ea, rfl, ea, CB, d3, .int m, rfl, upd_same, (by rw [upd_ne ne, upd_same]), XB.hg, XB.hk, nB, XB.hd, XB.hs, .int m, rfl, rfl, ?_⟩
      have k4 : Kp [P1] H2 (upd (upd H3 d3 (.xd [("at", .int m)])) ea (ExV (.ref CB) (some d3) ea)) := (k3.put2 nd3).put2 na
      rw [show decide (V.int (m : Int) = V.int m) = true from decide_eq_true rfl]
      exact q _ (fin _ k4) (tabG_kp (tabG_kp g3 (Kp.new nd3)) (Kp.new na)) (tabS2 _ k4)
    · rw [hio] at hm hd3
      have e1 : wrV (wkA rs).2 = .non := by rw [hm] <;> rfl
      rw [e1]
      have el3 := k3 l _ el2 (.inr nlP1)
      refine ⟨.non, rfl, rfl, _, rfl, ite2 (fun _ => ?_) (fun e => absurd (decide_eq_true rfl) e)⟩
      refine ⟨x3, rfl, .ref l, rfl, l, xs, rfl, .inl ⟨sqL el3, fun t nt => ?_⟩⟩
      have k4 : Kp [] H3 (upd H3 t (.tup xs)) := Kp.new nt
      refine ⟨_, _, ((hd3 []).kp k4).dp, (Da.tup (S := []) upd_same (DaL.any k4 (fun S => DaL.any k3 (fun S => DaL.any k2 hD S) S) [])).dp, wk_shaped rs, wk_shaped rs, ?_⟩
      rw [SeqAt.eqv_refl _ (SeqAt.canLay_of_shaped (wk_shaped rs))]
      have k5 : Kp [P1] H2 (upd H3 t (.tup xs)) := k3.put2 nt
      exact q _ (fin _ k5) (tabG_kp g3 k4) (tabS2 _ k5)
end
end K16
set_option Elab.async false
set_option linter.all false
set_option maxRecDepth 100000
set_option maxHeartbeats 2000000
namespace K16
open PySem PySem.Spec PyProof.Rows L2 Kb
section
variable {P1 P2 P3 d w c : Addr} {H H' : Hp} {N M : Nat} {K : PySem.W.Frag}
/-- what no list of the law's own may be -/
abbrev SC (P1 P2 P3 d w c : Addr) : List Addr := [P1, P2, P3, d, w, c]
theorem Wd.frc (hW : Wd P1 P2 P3 H d w c N) : Fr H (SC P1 P2 P3 d w c) := fun s hs e => by
  simp only [List.mem_cons, List.not_mem_nil, or_false] at hs
  rcases hs with h | h | h | h | h | h
  · exact hW.fr s (by simp [h]) e
  · exact hW.fr s (by simp [h]) e
  · exact hW.fr s (by simp [h]) e
  · exact hW.fr s (by simp [h]) e
  · exact hW.fr s (by simp [h]) e
  · obtain ⟨_, _, ⟨cs, ec, _⟩⟩ := hW.dr
    rw [h, ec] at e
    cases e
theorem sc_ss {p : Addr} (h : p ∉ SC P1 P2 P3 d w c) : p ∉ SS P1 P2 P3 d w := fun m => h (by
  simp only [List.mem_cons, List.not_mem_nil, or_false] at m ⊢
  rcases m with z | z | z | z | z <;> simp [z])
theorem Wd.kn {p : Addr} (hW : Wd P1 P2 P3 H d w c N) (hn : p ∉ SC P1 P2 P3 d w c) (k : Kp [p] H H') : Wd P1 P2 P3 H' d w c N := by
  simp only [List.mem_cons, List.not_mem_nil, or_false, not_or] at hn
  obtain ⟨h1, h2, h3, h4, h5, h6⟩ := hn
  exact ⟨hW.dr.kp k (fun m => h4 (List.mem_singleton.mp m).symm) (fun m => h5 (List.mem_singleton.mp m).symm) (fun m => h6 (List.mem_singleton.mp m).symm), tabG_kp' hW.t1 k (fun m => h1 (List.mem_singleton.mp m).symm), tabS_kp' hW.t2 k (fun m => h2 (List.mem_singleton.mp m).symm), tabS_kp' hW.t3 k (fun m => h3 (List.mem_singleton.mp m).symm)⟩
theorem Wd.k12 (hW : Wd P1 P2 P3 H d w c N) (n13 : P1 ≠ P3) (n23 : P2 ≠ P3) (k : Kp [P1, P2] H H') (t1 : GxR.TabG H' P1) (t2 : LamX.TabS H' P2 qTold) : Wd P1 P2 P3 H' d w c N := by
  obtain ⟨⟨r, t, ed, h1, h2⟩, ⟨ws, ew, h3⟩, ⟨cs, ec, h4⟩⟩ := hW.dr
  have off : ∀ {o : Addr} {u : HO}, H o = some u → (∀ ps, u ≠ .tbl ps) → o ∉ [P1, P2] := fun e hu m => by
    simp only [List.mem_cons, List.not_mem_nil, or_false] at m
    obtain ⟨ps, q⟩ := hW.off (m.imp id .inl)
    rw [e] at q
    exact hu ps (Option.some.inj q)
  refine ⟨hW.dr.kp k (off ed fun _ z => by cases z) (off ew fun _ z => by cases z) (off ec fun _ z => by cases z), t1, t2, tabS_kp' hW.t3 k fun m => ?_⟩
  simp only [List.mem_cons, List.not_mem_nil, or_false] at m
  rcases m with z | z
  · exact n13 z.symm
  · exact n23 z.symm
theorem k12S (k : Kp [P1, P2] H H') : Kp (SS P1 P2 P3 d w) H H' := k.mono fun b hb => by
  simp only [List.mem_cons, List.not_mem_nil, or_false] at hb ⊢
  rcases hb with z | z <;> simp [z]
/-- the script stays -/
theorem script_stays {H0 : Hp} {a : Addr} {xs : List V} (hS : SqL K H0 a xs) (k0 : Kp [] H0 H) (nw : H0 w = none) (hW : Wd P1 P2 P3 H d w c N) (k : Kp (SS P1 P2 P3 d w) H H') : SqL K H' a xs := by
  have key : ∀ {u : HO}, H0 a = some u → (∀ ps, u ≠ .tbl ps) → (∀ kv, u ≠ .dK kv) → H' a = some u := fun {u} e h1 h2 => by
    have e1 := k0 a _ e (.inr List.not_mem_nil)
    refine k a _ e1 (.inr fun m => ?_)
    simp only [List.mem_cons, List.not_mem_nil, or_false] at m
    have tab : (a = P1 ∨ a = P2 ∨ a = P3) → False := fun z => by
      obtain ⟨ps, q⟩ := hW.off z
      rw [e1] at q
      exact h1 ps (Option.some.inj q)
    rcases m with z | z | z | z | z
    · exact tab (.inl z)
    · exact tab (.inr (.inl z))
    · exact tab (.inr (.inr z))
    · obtain ⟨⟨r, t, ed, _, _⟩, _, _⟩ := hW.dr
      rw [z, ed] at e1
      exact h2 _ (Option.some.inj e1).symm
    · rw [z, nw] at e
      cases e
  rcases hS with (e | ⟨o, e⟩) | h
  · exact .inl (.inl (key e (fun _ z => by cases z) fun _ z => by cases z))
  · exact .inl (.inr ⟨o, key e (fun _ z => by cases z) fun _ z => by cases z⟩)
  · exact .inr h
end
theorem lenL {K : PySem.W.Frag} {H : Hp} {l : Addr} {xs : List V} {n : Nat} (e : H l = some (.lst xs)) (h : xs.length = n) : LenV K (.ref l) H n := .inl ⟨_, sqL e, h.symm⟩
theorem cut_takeI (xs : List V) {i : Int} (h : 0 ≤ i) : cutV xs none (some i) = xs.take i.toNat := by
  obtain ⟨n, rfl⟩ : ∃ n : Nat, i = n := ⟨i.toNat, by omega⟩
  exact cut_take xs n
theorem cut_dropI (xs : List V) {i : Int} (h : 0 ≤ i) : cutV xs (some i) none = xs.drop i.toNat := by
  obtain ⟨n, rfl⟩ : ∃ n : Nat, i = n := ⟨i.toNat, by omega⟩
  exact cut_drop xs n
theorem cells_take {ns : List Int} (h : Cells ns) (n : Nat) : Cells (ns.take n) := fun x hx => h x (List.mem_of_mem_take hx)
theorem cells_drop {ns : List Int} (h : Cells ns) (n : Nat) : Cells (ns.drop n) := fun x hx => h x (List.mem_of_mem_drop hx)
theorem cells_set {ns : List Int} (h : Cells ns) {n : Nat} {i : Int} (h0 : 0 ≤ i) (h1 : i ≤ 63) : Cells (ns.set n i) := fun x hx => by
  rcases List.mem_or_eq_of_mem_set hx with z | z
  · exact h x z
  · rw [z]
    exact ⟨h0, h1⟩
def im6 : List Im := [.a (.c .non), .a (.c (.int 5)), .a (.c (.str "21")), .lst [.c (.int 64)], .tup [.c (.int 21), .c (.bl true)], .lst [.c (.int 21), .c .non]]
theorem im6_bad : (im6.map Im.d).all (fun d => !cellsOk d && decide ((dsOf d).length ≤ 900)) = true := by decide +kernel
/-- what a caught parted leaves -/
def Out (CB : Addr) (ns : List Int) (H : Hp) (v : V) : Prop :=
  (∃ ea dd fs, v = .ref ea ∧ H ea = some (ExV (.ref CB) (some dd) ea) ∧ H dd = some (.xd fs)) ∨ ∀ S, Da S H v (.tuple ((wkA ns).1.map insPy))
theorem Out.kp {CB : Addr} {ns : List Int} {H H' : Hp} {v : V} {T : List Addr} (h : Out CB ns H v) (k : Kp T H H') (n : ∀ dd fs, H dd = some (.xd fs) → dd ∉ T) : Out CB ns H' v := by
  rcases h with ⟨ea, dd, fs, e, h1, h2⟩ | h
  · exact .inl ⟨ea, dd, fs, e, k _ _ h1 (.inl rfl), k _ _ h2 (.inr (n _ _ h2))⟩
  · exact .inr (Da.any k h)
theorem Wd.xdn {P1 P2 P3 d w c dd o : Addr} {H : Hp} {N : Nat} {fs : List (Str × V)} (hW : Wd P1 P2 P3 H d w c N) (h : o = P1 ∨ o = P2 ∨ o = P3) (e : H dd = some (.xd fs)) : dd ∉ [o] := fun m => by
  obtain ⟨ps, q⟩ := hW.off h
  rw [← List.mem_singleton.mp m, e] at q
  cases q
theorem ins_at {S : List Addr} {H : Hp} {v : V} {i : Ins} (h : Da S H v (insPy i)) : ∃ q r, v = .ref q ∧ H q = some (.tup (.int i.1 :: r)) := by
  unfold insPy at h
  cases h with
  | tup e hD =>
    cases hD with
    | cons h1 h2 =>
      cases h1
      exact ⟨_, _, rfl, e⟩
theorem tup_at {S : List Addr} {H : Hp} {v : V} {ds : List PyData} (h : Da S H v (.tuple ds)) : ∃ p xs, v = .ref p ∧ H p = some (.tup xs) ∧ DaL S H xs ds := by
  cases h with
  | tup e hD => exact ⟨_, _, rfl, e, hD⟩
theorem first_at {α : Type} [DecidableEq α] {s : α} : ∀ {l : List α}, s ∈ l → ∃ j : Nat, l[j]? = some s ∧ ∀ m z, m < j → l[m]? = some z → z ≠ s
  | x :: r, h => by
    by_cases e : x = s
    · exact ⟨0, by rw [e]; rfl, fun m z hm => absurd hm (Nat.not_lt_zero _)⟩
    · obtain ⟨j, h1, h2⟩ := first_at (s := s) (l := r) ((List.mem_cons.mp h).resolve_left fun z => e z.symm)
      refine ⟨j + 1, h1, fun m z hm hz => ?_⟩
      cases m with
      | zero =>
        have : x = z := by simpa using hz
        rw [← this]
        exact e
      | succ m => exact h2 m z (Nat.lt_of_succ_lt_succ hm) (by simpa using hz)
theorem flat_ints (l : List Int) : (l.map V.int).all flatV = true := by
  rw [List.all_eq_true]
  intro x hx
  obtain ⟨i, _, rfl⟩ := List.mem_map.mp hx
  rfl
theorem inV_ints {s : Int} {l : List Int} (h : inV (.int s) (l.map V.int) = true) : s ∈ l := by
  unfold inV at h
  rw [List.any_eq_true] at h
  obtain ⟨x, hx, e⟩ := h
  obtain ⟨i, hi, rfl⟩ := List.mem_map.mp hx
  have e2 : i = s := by
    have e3 : (i == s) = true := e
    simpa using e3
  rw [← e2]
  exact hi
theorem eqv_int_ne {i s : Int} (h : i ≠ s) : eqV (.int i) (.int s) = false := by
  show (i == s) = false
  simpa using h
/-- the starts that a reading tells -/
def sts (rs : List Int) (k : Nat) : List Int := (wkA (rs.drop k)).1.map fun q => (k : Int) + (q.1 : Int)
theorem sts_nat (rs : List Int) (k : Nat) : sts rs k = ((wkA (rs.drop k)).1.map fun q => k + q.1).map fun n : Nat => (n : Int) := by
  unfold sts
  rw [List.map_map]
  exact List.map_congr_left fun q _ => rfl
theorem sts_meet {rs : List Int} {k l : Nat} (hk : k ≤ rs.length) (hl : l ≤ rs.length) {i j : Nat} {s : Int} (h1 : (sts rs k)[i]? = some s) (h2 : (sts rs l)[j]? = some s) : (sts rs k).drop i = (sts rs l).drop j := by
  rw [sts_nat] at h1 h2 ⊢
  rw [sts_nat]
  rw [List.getElem?_map] at h1 h2
  obtain ⟨n1, e1, f1⟩ := Option.map_eq_some_iff.mp h1
  obtain ⟨n2, e2, f2⟩ := Option.map_eq_some_iff.mp h2
  have en : n1 = n2 := by omega
  subst en
  have e := congrArg (List.map fun n : Nat => (n : Int)) (meet hk hl e1 e2)
  rw [List.map_drop, List.map_drop] at e
  exact e
theorem sts_len (rs : List Int) (k : Nat) : (sts rs k).length ≤ rs.length := by
  unfold sts wkA
  rw [List.length_map]
  have := wk_len (ns := rs.drop k) (rs.drop k).length 0
  rw [List.length_drop] at this
  rw [List.length_drop]
  omega
end K16
set_option Elab.async false
set_option linter.all false
set_option maxRecDepth 100000
set_option maxHeartbeats 4000000
namespace K16
open PySem PySem.Spec PyProof.Rows L2 Kb
section
variable {P : Program} {w : World} {K : PySem.W.Frag} {mg : Str → Option Value} {base : Heap}
abbrev NL : List Str := ["script", "draw", "bends", "cells", "turn", "near", "bend", "one", "other", "first", "second", "here", "there", "shared", "told", "start"]
def spLaw (K : PySem.W.Frag) (P1 P2 P3 : Addr) : Sp := fun vs H Q _ => ∃ (a : Addr) (ns : List Int), vs = [.ref a] ∧ SqL K H a (ns.map V.int) ∧ ns.length ≤ 63 ∧ GxR.TabG H P1 ∧ LamX.TabS H P2 qTold ∧ LamX.TabS H P3 qLaw ∧ P1 ≠ P2 ∧ P1 ≠ P3 ∧ P2 ≠ P3 ∧ ∀ H', Q (.bl true) H'
theorem ok_law {f fB fT fM fP fI fA fX c3 P1 P2 P3 CC CB CL : Addr} {fd fdB fdT fdM fdP fdI fdA fdX : FuncData} (F : Fun K "law" "law" s_law f fd) (T : Bi mg) (hc : fd.code = .ref c3) (TB : LamX.TabB base mg c3 P3)
    (EC : Ec K mg "BadCells" CC) (XC : ExcC K CC) (XB : ExcC K CB) (hBT : PySem.W.kitOne K (.ref CB) (.type "tuple") = some false) (gL : mg "LinkError" = some (.ref CL)) (hCL : PySem.W.exmOne K (.ref CC) (.ref CL) = some true) (hBL : PySem.W.exmOne K (.ref CB) (.ref CL) = some true)
    (FB : Fun K "_law_begun" "_law_begun" s_l_begun fB fdB) (bB : Binds K fdB ["script"] []) (gB : mg "_law_begun" = some (.ref fB)) (GB : FnOk P w K mg base CX0 20 fB fdB ["script"] (spBegun K))
    (FT : Fun K "_law_take" "_law_take" s_l_take fT fdT) (bT : Binds K fdT ["draw", "many"] []) (gT : mg "_law_take" = some (.ref fT)) (GT : FnOk P w K mg base CX0 20 fT fdT ["draw", "many"] spTake)
    (FM : Fun K "_law_made" "_law_made" s_l_made fM fdM) (bM : Binds K fdM ["draw"] []) (gM : mg "_law_made" = some (.ref fM)) (GM : FnOk P w K mg base CX0 20 fM fdM ["draw"] spMade)
    (FP : Fun K "_law_pick" "_law_pick" s_l_pick fP fdP) (bP : Binds K fdP ["draw", "some"] []) (gP : mg "_law_pick" = some (.ref fP)) (GP : FnOk P w K mg base CX0 20 fP fdP ["draw", "some"] (spPick K))
    (FI : Fun K "_law_is_walk" "_law_is_walk" s_l_is_walk fI fdI) (bI : Binds K fdI ["cells"] []) (gI : mg "_law_is_walk" = some (.ref fI)) (GI : FnOk P w K mg base CX0 20 fI fdI ["cells"] (spIsWalk P1 P2))
    (FA : Fun K "parted" "parted" s_parted fA fdA) (bA : Binds K fdA ["cells"] []) (gA : mg "parted" = some (.ref fA)) (GA : FnOk P w K mg base (L2.CX P w) 20 fA fdA ["cells"] (spParted P1 CC CB))
    (FX : Fun K "_law_caught" "_law_caught" s_l_caught fX fdX) (bX : Binds K fdX ["act"] []) (gX : mg "_law_caught" = some (.ref fX)) :
    FnOk P w K mg base CX0 30 f fd ["script"] (spLaw K P1 P2 P3) := by
  refine okC0 F hc sc_law (fun vs H Q E h => ?_) (fun A outer s H vs Q E hr h => ?_)
  · obtain ⟨_, _, rfl, _⟩ := h
    rfl
  · obtain ⟨a, ns, rfl, hS, hlen, hT1, hT2, hT3, n12, n13, n23, q⟩ := h
    obtain ⟨oc, od, kV, doc, pm, an, cdg, ctg, osl, rfl, lk, hcg⟩ := FX.ex
    have h20 : Room 20 _ := hr.mono (by omega : 20 ≤ 29)
    refine ⟨_, (pss_cons (ps_set (i := 1) sc_law.nd rfl (.inr rfl) (pe_call GB h20 (by rfl) gB FB.kp bB .nil pass0 (pa_cons (pv 0) pa_nil)))
      (pss_cons (ps_par (i := 2) (j := 3) (by rfl) sc_law.nd rfl rfl (by decide) rfl rfl (pa_cons (pe_call GT h20 (by rfl) gT FT.kp bT .nil pass0 (pa_cons (pv 1) (pa_cons pe_int pa_nil))) (pa_cons (pe_lst pa_nil) pa_nil)) (by rfl))
      (pss_cons (ps_for PassesOwn.never rfl (pi_range1 (by rfl) T.m_range (pa_cons (pe_call GT h20 (by rfl) gT FT.kp bT .nil pass0 (pa_cons (pv 1) (pa_cons pe_int pa_nil))) pa_nil)) (pg_name (i := 4) sc_law.nd rfl (.inl rfl))
        (pss_one (ps_set (i := 3) sc_law.nd rfl (.inl rfl) (pe_op op_cat (pv 3) (pe_callTy call_list_of (by rfl) T.m_list (by decide +kernel) (pa_cons (pe_ix ix_seq (pe_call GM h20 (by rfl) gM FM.kp bM .nil pass0 (pa_cons (pv 1) pa_nil)) pe_int (fun _ _ => rfl)) pa_nil))))))
      (pss_cons (ps_if (PW.pt (pw_or (pt_not (pt_val (pe_call GI h20 (by rfl) gI FI.kp bI .nil pass0 (pa_cons (pv 3) pa_nil)))) (pw_or1 (pt_not (pt_val (pe_call GI h20 (by rfl) gI FI.kp bI .nil pass0 (pa_cons (pe_callTy call_tuple_of (by rfl) T.m_tuple (by decide +kernel) (pa_cons (pv 3) pa_nil)) pa_nil))))))) (pss_one (ps_ret pe_bl)) pss_nil)
      (pss_cons (ps_for PassesOwn.never rfl (pi_range1 (by rfl) T.m_range (pa_cons (pe_op op_add pe_int (pe_callB (call_min2 rfl) (by rfl) T.m_min (by decide +kernel) (pa_cons (pe_callB call_len (by rfl) T.m_len (by decide +kernel) (pa_cons (pv 0) pa_nil)) (pa_cons pe_int pa_nil)))) pa_nil)) (pg_name (i := 4) sc_law.nd rfl (.inl rfl))
        (pss_cons (ps_set (i := 5) sc_law.nd rfl (.inr rfl) (pe_ifExp (PW.pt (pw_and (pt_cmpR (op_neD hr.units) (pv 3) (pe_lst pa_nil) (nomark _)) (pw_and1 (pt_cmpR op_eq (pe_call GT h20 (by rfl) gT FT.kp bT .nil pass0 (pa_cons (pv 1) (pa_cons pe_int pa_nil))) pe_int (nomark _))))) (pe_slice sl_list (pv 3) po_none (po_some (pe_op op_add pe_int (pe_call GT h20 (by rfl) gT FT.kp bT .nil pass0 (pa_cons (pv 1) (pa_cons (pe_callB call_len (by rfl) T.m_len (by decide +kernel) (pa_cons (pv 3) pa_nil)) pa_nil)))))) (pe_callTy call_list_of (by rfl) T.m_list (by decide +kernel) (pa_cons (pv 3) pa_nil))))
        (pss_cons (ps_for PassesOwn.never rfl (pi_range1 (by rfl) T.m_range (pa_cons (pe_ifExp (pt_cmpR (op_neD hr.units) (pv 5) (pe_lst pa_nil) (nomark _)) (pv 2) pe_int) pa_nil)) (pg_name (i := 6) sc_law.nd rfl (.inl rfl))
          (pss_one (ps_asg (pe_call GT h20 (by rfl) gT FT.kp bT .nil pass0 (pa_cons (pv 1) (pa_cons pe_int pa_nil))) (pg_sub (pv 5) (pe_call GT h20 (by rfl) gT FT.kp bT .nil pass0 (pa_cons (pv 1) (pa_cons (pe_callB call_len (by rfl) T.m_len (by decide +kernel) (pa_cons (pv 5) pa_nil)) pa_nil))) set_list))))
        (pss_cons (ps_asg (pe_tup (pa_cons (pe_call GT h20 (by rfl) gT FT.kp bT .nil pass0 (pa_cons (pv 1) (pa_cons (pe_op op_add (pe_callB call_len (by rfl) T.m_len (by decide +kernel) (pa_cons (pv 5) pa_nil)) pe_int) pa_nil))) (pa_cons (pe_call GT h20 (by rfl) gT FT.kp bT .nil pass0 (pa_cons (pv 1) (pa_cons (pe_op op_add (pe_callB call_len (by rfl) T.m_len (by decide +kernel) (pa_cons (pv 5) pa_nil)) pe_int) pa_nil))) pa_nil))) (pg_tup (by rfl) (pgs_cons (pg_name (i := 7) sc_law.nd rfl (.inr rfl)) (pgs_cons (pg_name (i := 8) sc_law.nd rfl (.inr rfl)) pgs_nil))))
        (pss_cons (ps_if (PW.pt (pw_or (pt_not (pt_val (pe_call GI h20 (by rfl) gI FI.kp bI .nil pass0 (pa_cons (pv 5) pa_nil)))) (pw_or1 (pt_not (pt_val (pe_call GI h20 (by rfl) gI FI.kp bI .nil pass0 (pa_cons (pe_slice sl_list (pv 5) (po_some (pv 7)) po_none) pa_nil))))))) (pss_one (ps_ret pe_bl)) pss_nil)
        (pss_cons (ps_set (i := 9) sc_law.nd rfl (.inl rfl) (pe_lamcall1 (x := "_law_caught") (a := "act") (k := 25) (t := fun E => tCall (spParted P1 CC CB) [] E (tCons (tSl (rSlL K) (tVar 5) (tPart (tVar 7)) tNoPart) tNil))
            (by rfl) gX FX.kp lk hcg bX sc_l_caught rfl (.inl rfl) (caught_gives gL) TB rfl (hr.mono (by omega)) (LamX.lamS_by (by rfl)) (by rfl) (fun _ _ _ _ _ => rfl)
            (fun A outer s H E f c' hr' => by exact pe_call GA (hr'.mono (by omega)) (by rfl) gA FA.kp bA .nil (passes_call (takes_of rfl rfl rfl rfl) (fun _ _ _ _ h => h)) (pa_cons (pe_slice sl_list (pv 5) (po_some (pv 7)) po_none) pa_nil))))
        (pss_cons (ps_set (i := 10) sc_law.nd rfl (.inl rfl) (pe_lamcall1 (x := "_law_caught") (a := "act") (k := 25) (t := fun E => tCall (spParted P1 CC CB) [] E (tCons (tSl (rSlL K) (tVar 5) (tPart (tVar 8)) tNoPart) tNil))
            (by rfl) gX FX.kp lk hcg bX sc_l_caught rfl (.inl rfl) (caught_gives gL) TB rfl (hr.mono (by omega)) (LamX.lamS_by (by rfl)) (by rfl) (fun _ _ _ _ _ => rfl)
            (fun A outer s H E f c' hr' => by exact pe_call GA (hr'.mono (by omega)) (by rfl) gA FA.kp bA .nil (passes_call (takes_of rfl rfl rfl rfl) (fun _ _ _ _ h => h)) (pa_cons (pe_slice sl_list (pv 5) (po_some (pv 8)) po_none) pa_nil))))
        (pss_one (ps_if (PW.pt (pw_and (pt_val (pe_callB (KbAt.call_isD.or call_isi) (by rfl) T.m_isinstance (by decide +kernel) (pa_cons (pv 9) (pa_cons (pe_bltn (v := .ty "tuple") (by rfl) T.m_tuple (by decide +kernel) rfl) pa_nil)))) (pw_and1 (pt_val (pe_callB (KbAt.call_isD.or call_isi) (by rfl) T.m_isinstance (by decide +kernel) (pa_cons (pv 10) (pa_cons (pe_bltn (v := .ty "tuple") (by rfl) T.m_tuple (by decide +kernel) rfl) pa_nil))))))) (pss_cons (ps_asg (pe_tup (pa_cons (pe_lc (own := [("told", 14)]) (g := gName 14) (te := tOp (rI0 fun i j => .int (i + j)) (tVar 7) (tOp (rIx K) (tVar 14) (tC (.int 0)))) (by rfl) sc_law.nd (pi_tup (pv 9)) (blkOk_by (own := [("told", 14)]) (N := NL) (sc := defScope s_law) (by decide +kernel)) (fun _ _ _ _ _ => pg_name (i := 14) sc_law.nd rfl (.inl rfl)) (fun _ _ _ _ _ => pts_nil) (fun _ _ _ _ _ => by exact pe_op op_add (pv 7) (pe_ix ix_seq (pv 14) pe_int (fun _ _ => rfl))))
              (pa_cons (pe_lc (own := [("told", 14)]) (g := gName 14) (te := tOp (rI0 fun i j => .int (i + j)) (tVar 8) (tOp (rIx K) (tVar 14) (tC (.int 0)))) (by rfl) sc_law.nd (pi_tup (pv 10)) (blkOk_by (own := [("told", 14)]) (N := NL) (sc := defScope s_law) (by decide +kernel)) (fun _ _ _ _ _ => pg_name (i := 14) sc_law.nd rfl (.inl rfl)) (fun _ _ _ _ _ => pts_nil) (fun _ _ _ _ _ => by exact pe_op op_add (pv 8) (pe_ix ix_seq (pv 14) pe_int (fun _ _ => rfl)))) pa_nil))) (pg_tup (by rfl) (pgs_cons (pg_name (i := 11) sc_law.nd rfl (.inl rfl)) (pgs_cons (pg_name (i := 12) sc_law.nd rfl (.inr rfl)) pgs_nil))))
          (pss_cons (ps_setLc (i := 13) (own := [("start", 15)]) (g := gName 15) (tt := tTest (tOp (rIn K false) (tVar 15) (tVar 12))) (by rfl) sc_law.nd rfl rfl (sw_true rfl rfl rfl (by decide +kernel)) (pi_list (pv 11)) (blkOk_by (own := [("start", 15)]) (N := NL) (sc := defScope s_law) (by decide +kernel)) (fun _ _ _ _ _ => pg_name (i := 15) sc_law.nd rfl (.inl rfl)) (fun _ _ _ _ _ => by exact pts_one (pt_cmpR op_in_seq (pv 15) (pv 12) (by rfl))) (fun _ _ _ _ _ => pv 15))
          (pss_one (ps_if (PW.pt (pw_and (pt_cmpR (op_neD hr.units) (pv 13) (pe_lst pa_nil) (nomark _)) (pw_and1 (pt_cmpR (op_neD hr.units) (pe_slice sl_list (pv 11) (po_some (pe_bm PySem.F.plainAttrs_list PySem.F.slot_list_index PySem.F.type_list_index mt_index (pv 11) (pa_cons (pe_ix ix_seq (pv 13) pe_int (fun _ _ => rfl)) pa_nil))) po_none) (pe_slice sl_list (pv 12) (po_some (pe_bm PySem.F.plainAttrs_list PySem.F.slot_list_index PySem.F.type_list_index mt_index (pv 12) (pa_cons (pe_ix ix_seq (pv 13) pe_int (fun _ _ => rfl)) pa_nil))) po_none) (nomark _))))) (pss_one (ps_ret pe_bl)) pss_nil)))) pss_nil)))))))))
      (pss_one (ps_ret (pe_callB call_isV (by rfl) T.m_isinstance (by decide +kernel) (pa_cons (pe_lamcall1 (x := "_law_caught") (a := "act") (k := 25) (t := fun E => tCall (spParted P1 CC CB) [] E (tCons (tCall (spPick K) [] E0 (tCons (tVar 1) (tCons (tLst (tIms im6)) tNil))) tNil))
            (by rfl) gX FX.kp lk hcg bX sc_l_caught rfl (.inl rfl) (caught_gives gL) TB rfl (hr.mono (by omega)) (LamX.lamS_by (by rfl)) (by rfl) (fun _ _ _ _ _ => rfl)
            (fun A outer s H E f c' hr' => by exact pe_call GA (hr'.mono (by omega)) (by rfl) gA FA.kp bA .nil (passes_call (takes_of rfl rfl rfl rfl) (fun _ _ _ _ h => h)) (pa_cons (pe_call GP (hr'.mono (by omega)) (by rfl) gP FP.kp bP .nil pass0 (pa_cons (pv 1) (pa_cons (pe_lst (pa_cons pe_non (pa_cons pe_int (pa_cons pe_str (pa_cons (pe_lst (pa_cons pe_int pa_nil)) (pa_cons (pe_tup (pa_cons pe_int (pa_cons pe_bl pa_nil))) (pa_cons (pe_lst (pa_cons pe_int (pa_cons pe_non pa_nil))) pa_nil))))))) pa_nil))) pa_nil))) (pa_cons (pe_glob (v := .ref CC) (by rfl) EC.g rfl) pa_nil)))))))))), ?_⟩
    have lenN : (ns.map V.int).length = ns.length := List.length_map _
    refine ⟨.ref a, rfl, a, ns, rfl, hS, hlen, fun H1 d w c kb hD0 nw => ?_⟩
    have W1 : Wd P1 P2 P3 H1 d w c 0 := ⟨hD0, tabG_kp' hT1 kb List.not_mem_nil, tabS_kp' hT2 kb List.not_mem_nil, tabS_kp' hT3 kb List.not_mem_nil⟩
    have hSt : ∀ H', Kp (SS P1 P2 P3 d w) H1 H' → SqL K H' a (ns.map V.int) := fun H' k => script_stays hS kb nw W1 k
    -- bends, cells
    refine ⟨.ref d, rfl, d, w, c, 0, 3, rfl, W1.dr, by omega, by decide, by decide, fun H2 bn k2 D2 hb0 hb3 => ⟨small (by show 0 ≤ 1000; omega), fun l0 nl0 => ⟨.int bn, .ref l0, rfl, ?_⟩⟩⟩
    have W2 := W1.kdw k2 D2
    have W3 := W2.kp0 (Kp.new (o := .lst []) nl0)
    have n03 : l0 ∉ SC P1 P2 P3 d w c := W2.frc.ni nl0
    have k13 : Kp (SS P1 P2 P3 d w) H1 (upd H2 l0 (.lst [])) := (kdS k2).trans (Kp.new nl0)
    have el0 : (upd H2 l0 (.lst [])) l0 = some (.lst (([] : List Int).map V.int)) := upd_same
    generalize (upd H2 l0 (.lst [])) = H3 at W3 k13 el0 ⊢
    refine ⟨.ref d, rfl, d, w, c, _, 31, rfl, W3.dr, by omega, by decide, by decide, fun H4 r4 k4 D4 h40 h44 => ⟨r4, rfl, by omega, by omega, ?_⟩⟩
    have W4 := W3.kdw k4 D4
    have k14 := k13.trans (kdS k4)
    have el4 : H4 l0 = some (.lst (([] : List Int).map V.int)) := kdS (P1 := P1) (P2 := P2) (P3 := P3) k4 l0 _ el0 (.inr (sc_ss n03))
    have hr4 : r4.toNat ≤ 30 := by omega
    refine for_range (Pv := fun i σ H' => Wd P1 P2 P3 H' d w c (2 + 20 * i) ∧ Kp (SS P1 P2 P3 d w) H1 H' ∧ ∃ (l : Addr) (cs : List Int) (y4 : Option V), l ∉ SC P1 P2 P3 d w c ∧ H' l = some (.lst (cs.map V.int)) ∧ Cells cs ∧ cs.length ≤ 9 * i ∧
      σ = [some (.ref a), some (.ref d), some (.int bn), some (.ref l), y4, none, none, none, none, none, none, none, none, none, none, none]) ⟨W4, k14, l0, [], none, n03, el4, (fun _ h => nomatch h), Nat.zero_le _, rfl⟩ ?_ ?_
    · rintro i σ H5 hi ⟨W5, k15, l, cs, y4, nl, el, hC, hcl, rfl⟩
      refine ⟨.ref l, rfl, .ref d, rfl, d, w, c, _, rfl, W5.dr, by omega, fun H6 pA eA psA k6 D6 hmA hokA hA => ?_⟩
      have W6 := W5.kdw k6 D6
      obtain ⟨A1, A2, hA0, hA1, hA2⟩ := hA
      refine ixE (n := 1) (.inr (sqT hA0)) rfl ⟨A2, _, rfl, .inr (sqT hA2), fun l2 nl2 => ?_⟩
      obtain ⟨cAc, cAl⟩ := made_cells hmA psA
      generalize (eA.1 :: encs ((psA.map PyData.int).zip (lets eA.2.2))) = csA at hA2 cAc cAl ⊢
      have el6 : H6 l = some (.lst (cs.map V.int)) := kdS (P1 := P1) (P2 := P2) (P3 := P3) k6 l _ el (.inr (sc_ss nl))
      have W7 := W6.kp0 (Kp.new (o := .lst (csA.map V.int)) nl2)
      refine ⟨l, l2, _, _, rfl, rfl, (by rw [upd_ne (ne_of_none el6 nl2)]; exact el6), upd_same, small (by rw [List.length_map, List.length_map]; omega), fun p np => ?_⟩
      have W8 := W7.kp0 (Kp.new (o := .lst (cs.map V.int ++ csA.map V.int)) np)
      refine ⟨W8.mono (by omega), ((k15.trans (kdS k6)).trans (Kp.new nl2)).trans (Kp.new np), p, cs ++ csA, _, W7.frc.ni np, by rw [upd_same, List.map_append], cells_app hC cAc, by rw [List.length_append]; omega, rfl⟩
    rintro σ H5 ⟨W5, k15, l, cs, y4, nl, el, hC, hcl, rfl⟩
    have W5 := W5.mono (show 2 + 20 * r4.toNat ≤ 700 by omega)
    have hcl : cs.length ≤ 270 := by omega
    -- is_walk twice
    refine ⟨.ref l, rfl, SS P1 P2 P3 d w, l, cs, rfl, .lst el (sc_ss nl), hC, by omega, by simp, by simp, n12, W5.t1, W5.t2, fun H6 k6 g6 t6 => ⟨_, rfl, ?_⟩⟩
    refine ite2 (fun y => Bool.noConfusion y) fun _ => ?_
    have W6 := W5.k12 n13 n23 k6 g6 t6
    have el6 := k12S (P3 := P3) (d := d) (w := w) k6 l _ el (.inr (sc_ss nl))
    refine ⟨.ref l, rfl, l, _, rfl, .inl ⟨sqL el6, fun t nt => ?_⟩⟩
    have W7 := W6.kp0 (Kp.new (o := .tup (cs.map V.int)) nt)
    refine ⟨SS P1 P2 P3 d w, t, cs, rfl, .tup upd_same, hC, by omega, by simp, by simp, n12, W7.t1, W7.t2, fun H8 k8 g8 t8 => ⟨_, rfl, ?_⟩⟩
    refine ite2 (fun y => Bool.noConfusion y) fun _ => ?_
    have W8 := W7.k12 n13 n23 k8 g8 t8
    have k68 : Kp (SS P1 P2 P3 d w) H6 H8 := (Kp.new nt).trans (k12S k8)
    have el8 := k68 l _ el6 (.inr (sc_ss nl))
    have k18 := (k15.trans (k12S k6)).trans k68
    clear k68 W7 W6 W5 el6 el
    -- the turns
    refine ⟨.ref a, rfl, .ref a, ns.length, rfl, .inl ⟨_, hSt _ k18, lenN.symm⟩, _, _, rfl, 4, _, rfl, rfl, _, rfl, ?_, ?_, ?_⟩
    · split <;> omega
    · split <;> omega
    have hJ : (4 + (if (20 : Int) < (ns.length : Int) then 20 else (ns.length : Int))).toNat ≤ 24 := by
      split <;> omega
    clear hSt k18 k14 k13
    refine for_range (Pv := fun i σ H' => Wd P1 P2 P3 H' d w c (700 + 100 * i) ∧ H' l = some (.lst (cs.map V.int)) ∧ ∃ y4 y5 y6 y7 y8 y9 y10 y11 y12 y13 y14 y15, σ = [some (.ref a), some (.ref d), some (.int bn), some (.ref l), y4, y5, y6, y7, y8, y9, y10, y11, y12, y13, y14, y15]) ⟨W8, el8, _, _, _, _, _, _, _, _, _, _, _, _, rfl⟩ ?_ ?_
    · rintro i σ H9 hi ⟨W9, el9, y4, y5, y6, y7, y8, y9, y10, y11, y12, y13, y14, y15, rfl⟩
      obtain ⟨N, hN⟩ : ∃ N, N = 700 + 100 * i := ⟨_, rfl⟩
      rw [← hN] at W9
      have hN6 : N ≤ 4000 := by omega
      have hNi : N + 100 = 700 + 100 * (i + 1) := by omega
      -- near
      refine with_rest (t := tAsg _ _) fun Rn hRn => ?_
      have rest : ∀ (H10 : Hp) (nr : Addr) (rs : List Int), Wd P1 P2 P3 H10 d w c (N + 10) → H10 l = some (.lst (cs.map V.int)) → H10 nr = some (.lst (rs.map V.int)) → nr ∉ SC P1 P2 P3 d w c → nr ≠ l → Cells rs → rs.length ≤ 270 →
          Rn [some (.ref a), some (.ref d), some (.int bn), some (.ref l), some (.int (0 + (i : Int))), some (.ref nr), y6, y7, y8, y9, y10, y11, y12, y13, y14, y15] H10 := by
        intro H10 nr rs W10 el10 er10 nnr nrl hC10 hrl
        rw [hRn]
        clear hRn
        refine with_rest (t := tFor _ _ _) fun Rn2 hRn2 => ?_
        have rest2 : ∀ (H11 : Hp) (rs : List Int) (y6 : Option V), Wd P1 P2 P3 H11 d w c (N + 20) → H11 l = some (.lst (cs.map V.int)) → H11 nr = some (.lst (rs.map V.int)) → Cells rs → rs.length ≤ 270 → Rn2 [some (.ref a), some (.ref d), some (.int bn), some (.ref l), some (.int (0 + (i : Int))), some (.ref nr), y6, y7, y8, y9, y10, y11, y12, y13, y14, y15] H11 := by
          intro H11 rs y6 W11 el11 er11 hC11 hrl
          rw [hRn2]
          clear hRn2
          have lenR := List.length_map (as := rs) V.int
          -- one, other
          refine ⟨.ref d, rfl, .ref nr, rfl, .ref nr, rs.length, rfl, lenL er11 lenR, _, _, rfl, rfl, d, w, c, _, _, rfl, W11.dr, by omega, by omega, by omega, fun H12 o1 k12 D12 ho0 ho1 => ?_⟩
          have W12 := W11.kdw k12 D12
          have er12 := kdS (P1 := P1) (P2 := P2) (P3 := P3) k12 nr _ er11 (.inr (sc_ss nnr))
          refine ⟨.ref d, rfl, .ref nr, rfl, .ref nr, rs.length, rfl, lenL er12 lenR, _, _, rfl, rfl, d, w, c, _, _, rfl, D12, by omega, by omega, by omega, fun H13 o2 k13 D13 hp0 hp1 => ?_⟩
          have W13 := W12.kdw k13 D13
          obtain ⟨k1, rfl⟩ : ∃ k : Nat, o1 = k := ⟨o1.toNat, by omega⟩
          obtain ⟨k2, rfl⟩ : ∃ k : Nat, o2 = k := ⟨o2.toNat, by omega⟩
          have er13 := kdS (P1 := P1) (P2 := P2) (P3 := P3) k13 nr _ er12 (.inr (sc_ss nnr))
          have el13 := kdS (P1 := P1) (P2 := P2) (P3 := P3) (k12.trans k13) l _ el11 (.inr (sc_ss nl))
          refine ⟨small (by show 2 ≤ 1000; omega), fun t nt => ⟨t, _, rfl, sqT upd_same, rfl, _, _, rfl, _, _, rfl, rfl, ?_⟩⟩
          have W14 := W13.kp0 (Kp.new (o := .tup [.int k1, .int k2]) nt)
          have er14 : (upd H13 t (.tup [.int k1, .int k2])) nr = some (.lst (rs.map V.int)) := by rw [upd_ne (ne_of_none er13 nt)]; exact er13
          have el14 : (upd H13 t (.tup [.int k1, .int k2])) l = some (.lst (cs.map V.int)) := by rw [upd_ne (ne_of_none el13 nt)]; exact el13
          generalize (upd H13 t (.tup [.int k1, .int k2])) = H14 at W14 er14 el14 ⊢
          have hk1 : k1 ≤ rs.length := by omega
          have hk2 : k2 ≤ rs.length := by omega
          -- is_walk twice
          refine ⟨.ref nr, rfl, SS P1 P2 P3 d w, nr, rs, rfl, .lst er14 (sc_ss nnr), hC11, by omega, by simp, by simp, n12, W14.t1, W14.t2, fun H15 k15 g15 t15 => ⟨_, rfl, ?_⟩⟩
          refine ite2 (fun y => Bool.noConfusion y) fun _ => ?_
          have W15 := W14.k12 n13 n23 k15 g15 t15
          have er15 := k12S (P3 := P3) (d := d) (w := w) k15 nr _ er14 (.inr (sc_ss nnr))
          have el15 := k12S (P3 := P3) (d := d) (w := w) k15 l _ el14 (.inr (sc_ss nl))
          refine ⟨.ref nr, rfl, .int k1, rfl, k1, rfl, nr, _, rfl, sqL er15, fun p np => ?_⟩
          have W16 := W15.kp0 (Kp.new (o := .lst (cutV (rs.map V.int) (some (k1 : Int)) none)) np)
          refine ⟨SS P1 P2 P3 d w, p, rs.drop k1, rfl, .lst (by rw [upd_same, cut_drop, List.map_drop]) (sc_ss (W15.frc.ni np)), cells_drop hC11 _, by rw [List.length_drop]; omega, by simp, by simp, n12, W16.t1, W16.t2, fun H17 k17 g17 t17 => ⟨_, rfl, ?_⟩⟩
          refine ite2 (fun y => Bool.noConfusion y) fun _ => ?_
          have W17 := W16.k12 n13 n23 k17 g17 t17
          have er17 := k12S (P3 := P3) (d := d) (w := w) k17 nr _ (by rw [upd_ne (ne_of_none er15 np)]; exact er15) (.inr (sc_ss nnr))
          have el17 := k12S (P3 := P3) (d := d) (w := w) k17 l _ (by rw [upd_ne (ne_of_none el15 np)]; exact el15) (.inr (sc_ss nl))
          have W17 := W17.mono (show N + 20 + 1 + 1 ≤ N + 30 by omega)
          -- first
          dsimp only [tNext]
          refine with_rest (t := tAsg _ _) fun Rn3 hRn3 => ?_
          have rest3 : ∀ (H17 : Hp) (v9 : V), Wd P1 P2 P3 H17 d w c (N + 30) → Out CB (rs.drop k1) H17 v9 → H17 l = some (.lst (cs.map V.int)) → H17 nr = some (.lst (rs.map V.int)) → Rn3 [some (.ref a), some (.ref d), some (.int bn), some (.ref l), some (.int (0 + (i : Int))), some (.ref nr), y6, some (.int k1), some (.int k2), some (v9), y10, y11, y12, y13, y14, y15] H17 := by
            intro H17 v9 W17 O9 el17 er17
            rw [hRn3]
            clear hRn3
            refine with_rest (t := tAsg _ _) fun Rn4 hRn4 => ?_
            have rest4 : ∀ (H17 : Hp) (v10 : V), Wd P1 P2 P3 H17 d w c (N + 30) → Out CB (rs.drop k1) H17 v9 → Out CB (rs.drop k2) H17 v10 → H17 l = some (.lst (cs.map V.int)) → Rn4 [some (.ref a), some (.ref d), some (.int bn), some (.ref l), some (.int (0 + (i : Int))), some (.ref nr), y6, some (.int k1), some (.int k2), some (v9), some (v10), y11, y12, y13, y14, y15] H17 := by
              intro H17 v10 W17 O9 O10 el17
              rw [hRn4]
              clear hRn4
              have done : ∀ H', Wd P1 P2 P3 H' d w c (N + 30) → H' l = some (.lst (cs.map V.int)) → Wd P1 P2 P3 H' d w c (700 + 100 * (i + 1)) ∧ H' l = some (.lst (cs.map V.int)) := fun H' W e => ⟨by rw [← hNi]; exact W.mono (by omega), e⟩
              refine ⟨v9, rfl, ?_⟩
              rcases O9 with ⟨ea, dd, fs, rfl, h1, h2⟩ | h9
              · refine .inl ⟨ea, CB, dd, fs, .ty "tuple", .type "tuple", false, rfl, h1, h2, XB, fun u hu => hu, hBT, _, rfl, ?_⟩
                refine ite2 (fun y => Bool.noConfusion y) fun _ => ?_
                refine ite2 (fun y => Bool.noConfusion y) fun _ => ?_
                obtain ⟨a1, a2⟩ := done _ W17 el17
                exact ⟨a1, a2, _, _, _, _, _, _, _, _, _, _, _, _, rfl⟩
              refine .inr ⟨v9, .ty "tuple", _, _, true, rfl, .ty _, (h9 []).ty, kit_ty (a := "tuple") (by decide +kernel), _, rfl, ite2 (fun _ => ?_) (fun y => absurd rfl y)⟩
              refine ⟨v10, rfl, ?_⟩
              rcases O10 with ⟨ea, dd, fs, rfl, h1, h2⟩ | h10
              · refine .inl ⟨ea, CB, dd, fs, .ty "tuple", .type "tuple", false, rfl, h1, h2, XB, fun u hu => hu, hBT, _, rfl, ?_⟩
                refine ite2 (fun y => Bool.noConfusion y) fun _ => ?_
                obtain ⟨a1, a2⟩ := done _ W17 el17
                exact ⟨a1, a2, _, _, _, _, _, _, _, _, _, _, _, _, rfl⟩
              refine .inr ⟨v10, .ty "tuple", _, _, true, rfl, .ty _, (h10 []).ty, kit_ty (a := "tuple") (by decide +kernel), _, rfl, ite2 (fun _ => ?_) (fun y => absurd rfl y)⟩
              obtain ⟨p9, xs9, rfl, e9, hD9⟩ := tup_at (h9 [])
              obtain ⟨p10, xs10, rfl, e10, hD10⟩ := tup_at (h10 [])
              have len9 : xs9.length = (sts rs k1).length := by rw [hD9.len]; unfold sts; rw [List.length_map, List.length_map]
              have len10 : xs10.length = (sts rs k2).length := by rw [hD10.len]; unfold sts; rw [List.length_map, List.length_map]
              have ls1 := sts_len rs k1
              have ls2 := sts_len rs k2
              -- here
              refine ⟨.ref p9, rfl, p9, rfl, ⟨_, sqT e9⟩, fun D1 nD1 => ?_⟩
              refine lc_by (J := Itt K p9) (vs := [14]) (D := D1) (H0 := upd H17 D1 (.lst [])) (n := xs9.length) (fun j H' => Kp [] H17 H' ∧ H' D1 = some (.lst (((sts rs k1).take j).map V.int))) ⟨Kp.new nD1, upd_same⟩ ?_ ?_
              · rintro j H18 hj ⟨k18, e18⟩
                obtain ⟨x', d', gx, gd, dx⟩ := hD9.get j hj
                refine ⟨⟨xs9, x', sqT (k18.tup e9), gx⟩, ?_⟩
                rintro v H19 ⟨rfl, fv⟩
                cases (fv _ (sqT (k18.tup e9))).symm.trans gx
                rw [List.getElem?_map] at gd
                obtain ⟨q9, hq9, rfl⟩ := Option.map_eq_some_iff.mp gd
                obtain ⟨qa, r9, rfl, eq9⟩ := ins_at dx
                refine ⟨rfl, ?_⟩
                unfold tYes
                refine (if_pos rfl).mpr ?_
                refine ⟨.int k1, rfl, .ref qa, rfl, ixE (n := 0) (.inr (sqT (k18.tup eq9))) rfl ⟨_, _, rfl, rfl, _, e18, small (by rw [List.length_map, List.length_take]; omega), k18.put nD1, ?_⟩⟩
                have gs : (sts rs k1)[j]? = some ((k1 : Int) + (q9.1 : Int)) := by
                  unfold sts
                  rw [List.getElem?_map, hq9]
                  rfl
                rw [upd_same, List.take_add_one, gs, List.map_append]
                rfl
              rintro H18 ⟨k18, e18⟩
              refine ⟨⟨xs9, sqT (k18.tup e9), Nat.le_refl _⟩, ?_⟩
              rw [len9, List.take_length] at e18
              -- there
              have e10b := k18.tup e10
              have hD10b := hD10.kp k18
              have W18 := W17.kp0 k18
              have el18 := k18 l _ el17 (.inr List.not_mem_nil)
              clear k18 hD10 e10 el17 W17 hD9 e9
              refine ⟨.ref p10, rfl, p10, rfl, ⟨_, sqT e10b⟩, fun D2 nD2 => ?_⟩
              refine lc_by (J := Itt K p10) (vs := [14]) (D := D2) (H0 := upd H18 D2 (.lst [])) (n := xs10.length) (fun j H' => Kp [] H18 H' ∧ H' D2 = some (.lst (((sts rs k2).take j).map V.int))) ⟨Kp.new nD2, upd_same⟩ ?_ ?_
              · rintro j H19 hj ⟨k19, e19⟩
                obtain ⟨x', d', gx, gd, dx⟩ := hD10b.get j hj
                refine ⟨⟨xs10, x', sqT (k19.tup e10b), gx⟩, ?_⟩
                rintro v H20 ⟨rfl, fv⟩
                cases (fv _ (sqT (k19.tup e10b))).symm.trans gx
                rw [List.getElem?_map] at gd
                obtain ⟨q9, hq9, rfl⟩ := Option.map_eq_some_iff.mp gd
                obtain ⟨qa, r9, rfl, eq9⟩ := ins_at dx
                refine ⟨rfl, ?_⟩
                unfold tYes
                refine (if_pos rfl).mpr ?_
                refine ⟨.int k2, rfl, .ref qa, rfl, ixE (n := 0) (.inr (sqT (k19.tup eq9))) rfl ⟨_, _, rfl, rfl, _, e19, small (by rw [List.length_map, List.length_take]; omega), k19.put nD2, ?_⟩⟩
                have gs : (sts rs k2)[j]? = some ((k2 : Int) + (q9.1 : Int)) := by
                  unfold sts
                  rw [List.getElem?_map, hq9]
                  rfl
                rw [upd_same, List.take_add_one, gs, List.map_append]
                rfl
              rintro H19 ⟨k19, e19⟩
              refine ⟨⟨xs10, sqT (k19.tup e10b), Nat.le_refl _⟩, ?_⟩
              rw [len10, List.take_length] at e19
              refine ⟨small (by show 2 ≤ 1000; omega), fun t nt => ⟨t, _, rfl, sqT upd_same, rfl, _, _, rfl, _, _, rfl, rfl, ?_⟩⟩
              have k20 : Kp [] H19 (upd H19 t (.tup [.ref D1, .ref D2])) := Kp.new nt
              have eD1 := (k19.trans k20) D1 _ e18 (.inr List.not_mem_nil)
              have eD2 := k20 D2 _ e19 (.inr List.not_mem_nil)
              have W20 := W18.kp0 (k19.trans k20)
              have el20 := (k19.trans k20) l _ el18 (.inr List.not_mem_nil)
              generalize (upd H19 t (.tup [.ref D1, .ref D2])) = H20 at k20 eD1 eD2 W20 el20 ⊢
              clear k20 k19 e19 e18 W18 el18 hD10b e10b
              -- shared
              refine ⟨.ref D1, rfl, D1, rfl, ⟨_, sqL eD1⟩, fun D3 nD3 => ?_⟩
              refine lc_by (J := Itl K D1) (vs := [15]) (D := D3) (H0 := upd H20 D3 (.lst [])) (n := (sts rs k1).length) (fun j H' => Kp [] H20 H' ∧ ∃ ss : List Int, H' D3 = some (.lst (ss.map V.int)) ∧ ss.length ≤ j ∧ ∀ s ∈ ss, s ∈ sts rs k1 ∧ s ∈ sts rs k2) ⟨Kp.new nD3, [], upd_same, Nat.le_refl _, fun _ h => nomatch h⟩ ?_ ?_
              · rintro j H21 hj ⟨k21, ss, e3, hsl, hsm⟩
                obtain ⟨s, hs⟩ : ∃ s, (sts rs k1)[j]? = some s := ⟨_, List.getElem?_eq_getElem hj⟩
                have gV : ((sts rs k1).map V.int)[j]? = some (.int s) := by rw [List.getElem?_map, hs] <;> rfl
                have e1 := k21 D1 _ eD1 (.inr List.not_mem_nil)
                have e2 := k21 D2 _ eD2 (.inr List.not_mem_nil)
                refine ⟨⟨_, _, sqL e1, gV⟩, ?_⟩
                rintro v H22 ⟨rfl, fv⟩
                cases (fv _ (sqL e1)).symm.trans gV
                refine ⟨rfl, .int s, rfl, .ref D2, rfl, D2, _, rfl, .inl (sqL e2), rfl, flat_ints _, _, rfl, ite2 (fun hin => ?_) (fun _ => ?_)⟩
                · refine ⟨.int s, rfl, _, e3, small (by rw [List.length_map]; omega), k21.put nD3, ss ++ [s], by rw [upd_same, List.map_append] <;> rfl, by rw [List.length_append]; show ss.length + 1 ≤ j + 1; omega, fun x hx => ?_⟩
                  rcases List.mem_append.mp hx with z | z
                  · exact hsm x z
                  · rw [List.mem_singleton.mp z]
                    exact ⟨List.mem_of_getElem? hs, inV_ints hin⟩
                · exact ⟨k21, ss, e3, by omega, hsm⟩
              rintro H21 ⟨k21, ss, e3, hsl, hsm⟩
              have e1 := k21 D1 _ eD1 (.inr List.not_mem_nil)
              have e2 := k21 D2 _ eD2 (.inr List.not_mem_nil)
              refine ⟨⟨_, sqL e1, by rw [List.length_map]; exact Nat.le_refl _⟩, ?_⟩
              have W21 := W20.kp0 k21
              have el21 := k21 l _ el20 (.inr List.not_mem_nil)
              clear eD1 eD2 k21 W20 el20
              refine ⟨.ref D3, rfl, small (by show 0 ≤ 1000; omega), fun l2 nl2 => ⟨_, _, .lst (sqL (by rw [upd_ne (ne_of_none e3 nl2)]; exact e3)) (DaL.ints (S := []) ss).dp, .lst (sqL upd_same) .nil, shaped_ints ss, shaped_ints [], _, rfl, ?_⟩⟩
              rw [eqv_nil]
              have k22 : Kp [] H21 (upd H21 l2 (.lst [])) := Kp.new nl2
              have W22 := W21.kp0 k22
              have el22 := k22 l _ el21 (.inr List.not_mem_nil)
              replace e1 := k22 D1 _ e1 (.inr List.not_mem_nil)
              replace e2 := k22 D2 _ e2 (.inr List.not_mem_nil)
              replace e3 := k22 D3 _ e3 (.inr List.not_mem_nil)
              generalize (upd H21 l2 (.lst [])) = H22 at W22 el22 e1 e2 e3 ⊢
              cases ss with
              | nil =>
                refine ite2 (fun y => Bool.noConfusion y) fun _ => ?_
                refine ite2 (fun y => Bool.noConfusion y) fun _ => ?_
                obtain ⟨a1, a2⟩ := done _ W22 el22
                exact ⟨a1, a2, _, _, _, _, _, _, _, _, _, _, _, _, rfl⟩
              | cons s sr =>
                refine ite2 (fun _ => ?_) fun y => absurd rfl y
                obtain ⟨m1, m2⟩ := hsm s List.mem_cons_self
                obtain ⟨j1, hj1, hf1⟩ := first_at m1
                obtain ⟨j2, hj2, hf2⟩ := first_at m2
                have gi : ∀ {l : List Int} {j : Nat}, l[j]? = some s → (l.map V.int)[j]? = some (.int s) := fun h => by rw [List.getElem?_map, h] <;> rfl
                have gn : ∀ {l : List Int} {j : Nat}, (∀ m z, m < j → l[m]? = some z → z ≠ s) → ∀ (m : Nat) (z' : V), m < j → (l.map V.int)[m]? = some z' → eqV z' (.int s) = false := fun h m z' hm hz => by
                  rw [List.getElem?_map] at hz
                  obtain ⟨z, h1, rfl⟩ := Option.map_eq_some_iff.mp hz
                  exact eqv_int_ne (h m z hm h1)
                have hself : eqV (.int s) (.int s) = true := by
                  show (s == s) = true
                  simp
                refine ⟨.ref D1, rfl, .ref D1, rfl, .inl ⟨rfl, _, sqL e1⟩, .ref D3, rfl, ixE (n := 0) (.inl (sqL e3)) rfl ⟨D1, _, .int s, j1, .int s, rfl, rfl, sqL e1, rfl, flat_ints _, gi hj1, hself, gn hf1, _, rfl, D1, _, rfl, sqL e1, fun p1 np1 => ?_⟩⟩
                have k23 : Kp [] H22 (upd H22 p1 (.lst (cutV ((sts rs k1).map V.int) (some (j1 : Int)) none))) := Kp.new np1
                have ep1 : (upd H22 p1 (.lst (cutV ((sts rs k1).map V.int) (some (j1 : Int)) none))) p1 = some (.lst (((sts rs k1).drop j1).map V.int)) := by rw [upd_same, cut_drop, List.map_drop]
                have W23 := W22.kp0 k23
                have el23 := k23 l _ el22 (.inr List.not_mem_nil)
                replace e2 := k23 D2 _ e2 (.inr List.not_mem_nil)
                replace e3 := k23 D3 _ e3 (.inr List.not_mem_nil)
                generalize (upd H22 p1 (.lst (cutV ((sts rs k1).map V.int) (some (j1 : Int)) none))) = H23 at W23 el23 e2 e3 ep1 ⊢
                refine ⟨.ref D2, rfl, .ref D2, rfl, .inl ⟨rfl, _, sqL e2⟩, .ref D3, rfl, ixE (n := 0) (.inl (sqL e3)) rfl ⟨D2, _, .int s, j2, .int s, rfl, rfl, sqL e2, rfl, flat_ints _, gi hj2, hself, gn hf2, _, rfl, D2, _, rfl, sqL e2, fun p2 np2 => ?_⟩⟩
                have k24 : Kp [] H23 (upd H23 p2 (.lst (cutV ((sts rs k2).map V.int) (some (j2 : Int)) none))) := Kp.new np2
                have ep2 : (upd H23 p2 (.lst (cutV ((sts rs k2).map V.int) (some (j2 : Int)) none))) p2 = some (.lst (((sts rs k2).drop j2).map V.int)) := by rw [upd_same, cut_drop, List.map_drop]
                have W24 := W23.kp0 k24
                have el24 := k24 l _ el23 (.inr List.not_mem_nil)
                replace ep1 := k24 p1 _ ep1 (.inr List.not_mem_nil)
                generalize (upd H23 p2 (.lst (cutV ((sts rs k2).map V.int) (some (j2 : Int)) none))) = H24 at W24 el24 ep1 ep2 ⊢
                refine ⟨_, _, .lst (sqL ep1) (DaL.ints (S := []) _).dp, .lst (sqL ep2) (DaL.ints (S := []) _).dp, shaped_ints _, shaped_ints _, _, rfl, ?_⟩
                rw [sts_meet hk1 hk2 hj1 hj2, SeqAt.eqv_refl _ (SeqAt.canLay_of_shaped (shaped_ints _))]
                refine ite2 (fun y => Bool.noConfusion y) fun _ => ?_
                obtain ⟨a1, a2⟩ := done _ W24 el24
                exact ⟨a1, a2, _, _, _, _, _, _, _, _, _, _, _, _, rfl⟩
            refine ⟨W17.t3, fun H18 e18 t18 => ?_⟩
            have k18 : Kp [P3] H17 H18 := Kp.ofExtP W17.t3 e18
            have W18 := W17.k3 n13 n23 k18 t18
            have er18 := k3S (P1 := P1) (P2 := P2) (d := d) (w := w) k18 nr _ er17 (.inr (sc_ss nnr))
            have el18 := k3S (P1 := P1) (P2 := P2) (d := d) (w := w) k18 l _ el17 (.inr (sc_ss nl))
            refine ⟨.ref nr, rfl, .int k2, rfl, k2, rfl, nr, _, rfl, sqL er18, fun p np => ?_⟩
            have W19 := W18.kp0 (Kp.new (o := .lst (cutV (rs.map V.int) (some (k2 : Int)) none)) np)
            have hR := RowAt.lst (S := SS P1 P2 P3 d w) (H := upd H18 p (.lst (cutV (rs.map V.int) (some (k2 : Int)) none))) (x := p) (rs := rs.drop k2) (by rw [upd_same, cut_drop, List.map_drop]) (sc_ss (W18.frc.ni np))
            have el19 : (upd H18 p (.lst (cutV (rs.map V.int) (some (k2 : Int)) none))) l = some (.lst (cs.map V.int)) := by rw [upd_ne (ne_of_none el18 np)]; exact el18
            have er19 : (upd H18 p (.lst (cutV (rs.map V.int) (some (k2 : Int)) none))) nr = some (.lst (rs.map V.int)) := by rw [upd_ne (ne_of_none er18 np)]; exact er18
            have k1819 : Kp [] H18 (upd H18 p (.lst (cutV (rs.map V.int) (some (k2 : Int)) none))) := Kp.new np
            generalize (upd H18 p (.lst (cutV (rs.map V.int) (some (k2 : Int)) none))) = H19 at W19 hR el19 er19 k1819 ⊢
            obtain ⟨dd, hda, hck, hio, hdl⟩ := hR.cells (cells_drop hC11 _)
            have hdl2 : (dsOf dd).length ≤ 900 := by rw [hdl, List.length_drop]; omega
            have O18 := (O9.kp k18 fun dd fs e => W17.xdn (.inr (.inr rfl)) e).kp k1819 fun _ _ _ => List.not_mem_nil
            refine ⟨SS P1 P2 P3 d w, .ref p, dd, rfl, hda, by simp, W19.t1, hdl2, (fun hc => by rw [hck] at hc; cases hc), fun _ m H20 d20 hm k20 g20 nd20 => ⟨hBL, fun ea na => ?_⟩, fun _ hm x20 H20 k20 g20 hd20 => ?_⟩
            · have ne : d20 ≠ ea := fun e => by rw [e, upd_same] at na; cases na
              have W20 := ((W19.k1 n12 n13 k20 g20).kp0 (Kp.new (o := .xd [("at", .int m)]) nd20)).kp0 (Kp.new (o := ExV (.ref CB) (some d20) ea) na)
              have k21 : Kp [P1] H19 (upd (upd H20 d20 (.xd [("at", .int m)])) ea (ExV (.ref CB) (some d20) ea)) := (k20.put2 nd20).put2 na
              exact rest4 _ _ W20 (O18.kp k21 fun dd fs e => W19.xdn (.inl rfl) e) (.inl ⟨ea, d20, _, rfl, upd_same, by rw [upd_ne ne, upd_same]⟩) (k1S (P2 := P2) (P3 := P3) (d := d) (w := w) k21 l _ el19 (.inr (sc_ss nl)))
            · rw [hio] at hd20
              exact rest4 _ _ (W19.k1 n12 n13 k20 g20) (O18.kp k20 fun dd fs e => W19.xdn (.inl rfl) e) (.inr hd20) (k1S (P2 := P2) (P3 := P3) (d := d) (w := w) k20 l _ el19 (.inr (sc_ss nl)))
          refine ⟨W17.t3, fun H18 e18 t18 => ?_⟩
          have k18 : Kp [P3] H17 H18 := Kp.ofExtP W17.t3 e18
          have W18 := W17.k3 n13 n23 k18 t18
          have er18 := k3S (P1 := P1) (P2 := P2) (d := d) (w := w) k18 nr _ er17 (.inr (sc_ss nnr))
          have el18 := k3S (P1 := P1) (P2 := P2) (d := d) (w := w) k18 l _ el17 (.inr (sc_ss nl))
          refine ⟨.ref nr, rfl, .int k1, rfl, k1, rfl, nr, _, rfl, sqL er18, fun p np => ?_⟩
          have W19 := W18.kp0 (Kp.new (o := .lst (cutV (rs.map V.int) (some (k1 : Int)) none)) np)
          have hR := RowAt.lst (S := SS P1 P2 P3 d w) (H := upd H18 p (.lst (cutV (rs.map V.int) (some (k1 : Int)) none))) (x := p) (rs := rs.drop k1) (by rw [upd_same, cut_drop, List.map_drop]) (sc_ss (W18.frc.ni np))
          have el19 : (upd H18 p (.lst (cutV (rs.map V.int) (some (k1 : Int)) none))) l = some (.lst (cs.map V.int)) := by rw [upd_ne (ne_of_none el18 np)]; exact el18
          have er19 : (upd H18 p (.lst (cutV (rs.map V.int) (some (k1 : Int)) none))) nr = some (.lst (rs.map V.int)) := by rw [upd_ne (ne_of_none er18 np)]; exact er18
          have k1819 : Kp [] H18 (upd H18 p (.lst (cutV (rs.map V.int) (some (k1 : Int)) none))) := Kp.new np
          generalize (upd H18 p (.lst (cutV (rs.map V.int) (some (k1 : Int)) none))) = H19 at W19 hR el19 er19 k1819 ⊢
          obtain ⟨dd, hda, hck, hio, hdl⟩ := hR.cells (cells_drop hC11 _)
          have hdl2 : (dsOf dd).length ≤ 900 := by rw [hdl, List.length_drop]; omega
          refine ⟨SS P1 P2 P3 d w, .ref p, dd, rfl, hda, by simp, W19.t1, hdl2, (fun hc => by rw [hck] at hc; cases hc), fun _ m H20 d20 hm k20 g20 nd20 => ⟨hBL, fun ea na => ?_⟩, fun _ hm x20 H20 k20 g20 hd20 => ?_⟩
          · have ne : d20 ≠ ea := fun e => by rw [e, upd_same] at na; cases na
            have W20 := ((W19.k1 n12 n13 k20 g20).kp0 (Kp.new (o := .xd [("at", .int m)]) nd20)).kp0 (Kp.new (o := ExV (.ref CB) (some d20) ea) na)
            have k21 : Kp [P1] H19 (upd (upd H20 d20 (.xd [("at", .int m)])) ea (ExV (.ref CB) (some d20) ea)) := (k20.put2 nd20).put2 na
            exact rest3 _ _ W20 (.inl ⟨ea, d20, _, rfl, upd_same, by rw [upd_ne ne, upd_same]⟩) (k1S (P2 := P2) (P3 := P3) (d := d) (w := w) k21 l _ el19 (.inr (sc_ss nl))) (k1S (P2 := P2) (P3 := P3) (d := d) (w := w) k21 nr _ er19 (.inr (sc_ss nnr)))
          · rw [hio] at hd20
            exact rest3 _ _ (W19.k1 n12 n13 k20 g20) (.inr hd20) (k1S (P2 := P2) (P3 := P3) (d := d) (w := w) k20 l _ el19 (.inr (sc_ss nl))) (k1S (P2 := P2) (P3 := P3) (d := d) (w := w) k20 nr _ er19 (.inr (sc_ss nnr)))
        have lenR := List.length_map (as := rs) V.int
        refine ⟨.ref nr, rfl, small (by show 0 ≤ 1000; omega), fun l2 nl2 => ⟨_, _, .lst (sqL (by rw [upd_ne (ne_of_none er10 nl2)]; exact er10)) (DaL.ints (S := []) rs).dp, .lst (sqL upd_same) .nil, shaped_ints rs, shaped_ints [], _, rfl, ?_⟩⟩
        rw [eqv_nil]
        have W11 := W10.kp0 (Kp.new (o := .lst []) nl2)
        have el11 : (upd H10 l2 (.lst [])) l = some (.lst (cs.map V.int)) := by rw [upd_ne (ne_of_none el10 nl2)]; exact el10
        have er11 : (upd H10 l2 (.lst [])) nr = some (.lst (rs.map V.int)) := by rw [upd_ne (ne_of_none er10 nl2)]; exact er10
        generalize (upd H10 l2 (.lst [])) = H11 at W11 el11 er11 ⊢
        cases hrs : rs.isEmpty with
        | true =>
          refine ite2 (fun y => Bool.noConfusion y) fun _ => ?_
          refine ⟨0, rfl, by decide, by decide, for_range (n := 0) (Pv := fun j σ H' => σ = [some (.ref a), some (.ref d), some (.int bn), some (.ref l), some (.int (0 + (i : Int))), some (.ref nr), y6, y7, y8, y9, y10, y11, y12, y13, y14, y15] ∧ H' = H11) ⟨rfl, rfl⟩ (fun j _ _ hj => absurd hj (Nat.not_lt_zero _)) ?_⟩
          rintro σ H' ⟨rfl, rfl⟩
          exact rest2 _ rs _ (W11.mono (by omega)) el11 er11 hC10 hrl
        | false =>
          refine ite2 (fun _ => ?_) fun y => absurd rfl y
          have hpos : 0 < rs.length := by
            cases rs with
            | nil => cases hrs
            | cons _ _ => exact Nat.succ_pos _
          refine ⟨.int bn, rfl, bn, rfl, by omega, by omega, for_range (Pv := fun j σ H' => Wd P1 P2 P3 H' d w c (N + 10 + 2 * j) ∧ H' l = some (.lst (cs.map V.int)) ∧ ∃ (rs' : List Int) (y6 : Option V), H' nr = some (.lst (rs'.map V.int)) ∧ Cells rs' ∧ rs'.length = rs.length ∧ σ = [some (.ref a), some (.ref d), some (.int bn), some (.ref l), some (.int (0 + (i : Int))), some (.ref nr), y6, y7, y8, y9, y10, y11, y12, y13, y14, y15]) ⟨W11, el11, rs, _, er11, hC10, rfl, rfl⟩ ?_ ?_⟩
          · rintro j σ H12 hj ⟨W12, el12, rs', y6, er12, hC12, hl12, rfl⟩
            have hj3 : j < 3 := by omega
            refine ⟨.ref d, rfl, d, w, c, _, 64, rfl, W12.dr, by omega, by decide, by decide, fun H13 r6 k13 D13 h60 h64 => ?_⟩
            have W13 := W12.kdw k13 D13
            have er13 := kdS (P1 := P1) (P2 := P2) (P3 := P3) k13 nr _ er12 (.inr (sc_ss nnr))
            refine ⟨.ref nr, rfl, .ref d, rfl, .ref nr, rfl, .ref nr, rs'.length, rfl, lenL er13 (List.length_map _), d, w, c, _, _, rfl, D13, by omega, by omega, by omega, fun H14 r7 k14 D14 h70 h74 => ?_⟩
            have W14 := W13.kdw k14 D14
            have er14 := kdS (P1 := P1) (P2 := P2) (P3 := P3) k14 nr _ er13 (.inr (sc_ss nnr))
            have el14 := kdS (P1 := P1) (P2 := P2) (P3 := P3) (k13.trans k14) l _ el12 (.inr (sc_ss nl))
            have hix : ixN (rs'.map V.int).length r7 = some r7.toNat := by
              unfold ixN
              rw [List.length_map, if_pos (by omega), if_pos (by omega)]
            refine ⟨nr, _, r7, r7.toNat, rfl, rfl, er14, hix, ?_⟩
            have k15 : Kp [nr] H14 (upd H14 nr (.lst ((rs'.map V.int).set r7.toNat (.int r6)))) := Kp.refl.set (List.mem_singleton.mpr rfl) fun u e => by
              rw [er14] at e
              cases e
              rfl
            refine ⟨(W14.kn nnr k15).mono (by omega), by rw [upd_ne (Ne.symm nrl)]; exact el14, rs'.set r7.toNat r6, _, by rw [upd_same, List.map_set], cells_set hC12 h60 (by omega), by rw [List.length_set]; exact hl12, rfl⟩
          · rintro σ H12 ⟨W12, el12, rs', y6, er12, hC12, hl12, rfl⟩
            exact rest2 _ rs' _ (W12.mono (by omega)) el12 er12 hC12 (by omega)
      refine ⟨.ref l, rfl, small (by show 0 ≤ 1000; omega), fun l2 nl2 => ⟨_, _, .lst (sqL (by rw [upd_ne (ne_of_none el9 nl2)]; exact el9)) (DaL.ints (S := []) cs).dp, .lst (sqL upd_same) .nil, shaped_ints cs, shaped_ints [], _, rfl, ?_⟩⟩
      rw [eqv_nil]
      have W10 := W9.kp0 (Kp.new (o := .lst []) nl2)
      have el10 : (upd H9 l2 (.lst [])) l = some (.lst (cs.map V.int)) := by rw [upd_ne (ne_of_none el9 nl2)]; exact el9
      generalize (upd H9 l2 (.lst [])) = H10 at W10 el10 ⊢
      cases hcs : cs.isEmpty with
      | true =>
        refine ite2 (fun y => Bool.noConfusion y) fun _ => ?_
        refine ite2 (fun y => Bool.noConfusion y) fun _ => ?_
        refine ⟨.ref l, rfl, l, _, rfl, .inl (sqL el10), fun p np => ?_⟩
        exact rest _ p cs ((W10.kp0 (Kp.new np)).mono (by omega)) (by rw [upd_ne (ne_of_none el10 np)]; exact el10) upd_same (W10.frc.ni np) (ne_of_none el10 np).symm hC hcl
      | false =>
        refine ite2 (fun _ => ?_) fun y => absurd rfl y
        have hpos : 0 < cs.length := by
          cases cs with
          | nil => cases hcs
          | cons _ _ => exact Nat.succ_pos _
        refine ⟨.ref d, rfl, d, w, c, _, 2, rfl, W10.dr, by omega, by decide, by decide, fun H11 r5 k11 D11 _ _ => ⟨rfl, _, rfl, ite2 (fun _ => ?_) (fun _ => ?_)⟩⟩
        · have W11 := W10.kdw k11 D11
          have el11 := kdS (P1 := P1) (P2 := P2) (P3 := P3) k11 l _ el10 (.inr (sc_ss nl))
          refine ⟨.ref l, rfl, .ref d, rfl, .ref l, rfl, .ref l, cs.length, rfl, lenL el11 (List.length_map _), d, w, c, _, _, rfl, D11, by omega, by omega, by omega, fun H12 r6 k12 D12 h60 h64 => ?_⟩
          have W12 := W11.kdw k12 D12
          have el12 := kdS (P1 := P1) (P2 := P2) (P3 := P3) k12 l _ el11 (.inr (sc_ss nl))
          refine ⟨1, r6, rfl, rfl, _, rfl, l, _, rfl, sqL el12, fun p np => ?_⟩
          refine rest _ p (cs.take (1 + r6).toNat) ((W12.kp0 (Kp.new np)).mono (by omega)) (by rw [upd_ne (ne_of_none el12 np)]; exact el12) (by rw [upd_same, cut_takeI _ (show 0 ≤ 1 + r6 by omega), List.map_take]) (W12.frc.ni np) (ne_of_none el12 np).symm (cells_take hC _) (by rw [List.length_take]; omega)
        · have W11 := W10.kdw k11 D11
          have el11 := kdS (P1 := P1) (P2 := P2) (P3 := P3) k11 l _ el10 (.inr (sc_ss nl))
          refine ⟨.ref l, rfl, l, _, rfl, .inl (sqL el11), fun p np => ?_⟩
          exact rest _ p cs ((W11.kp0 (Kp.new np)).mono (by omega)) (by rw [upd_ne (ne_of_none el11 np)]; exact el11) upd_same (W11.frc.ni np) (ne_of_none el11 np).symm hC hcl
    · rintro σ H9 ⟨W9, el9, y4, y5, y6, y7, y8, y9, y10, y11, y12, y13, y14, y15, rfl⟩
      have W9 := W9.mono (show _ ≤ 4000 by omega)
      refine ⟨W9.t3, fun H18 e18 t18 => ?_⟩
      have k18 : Kp [P3] H9 H18 := Kp.ofExtP W9.t3 e18
      have W18 := W9.k3 n13 n23 k18 t18
      refine ⟨.ref d, rfl, consLst (lstIms_ok im6 (S := SS P1 P2 P3 d w) (by decide +kernel) (by decide) W18.fr fun l6 zs H29 k29 n29 e29 hd29 => ?_)⟩
      have W29 := W18.kp0 k29
      have hz6 : zs.length = 6 := hd29.len
      refine ⟨d, w, c, _, l6, zs, rfl, W29.dr, by omega, e29, W18.dr.there n29, (fun z => by rw [z] at hz6; cases hz6), by omega, fun H30 s k30 D30 hs => ?_⟩
      have W30 := W29.kdw k30 D30
      obtain ⟨ds, hdm, hds'⟩ := (hd29.kp (kdS k30)).mem hs
      obtain ⟨hb1, hb2⟩ := Bool.and_eq_true_iff.mp (List.all_eq_true.mp im6_bad ds hdm)
      have hbad : cellsOk ds = false := by
        cases hq : cellsOk ds with
        | false => rfl
        | true => rw [hq] at hb1; cases hb1
      have hb2 := of_decide_eq_true hb2
      refine ⟨SS P1 P2 P3 d w, s, ds, rfl, hds', by simp, W30.t1, hb2, (fun _ H32 k32 g32 => ⟨hCL, fun ea na => ?_⟩), (fun hc => by rw [hbad] at hc; cases hc), (fun hc => by rw [hbad] at hc; cases hc)⟩
      exact ⟨ea, CC, .ref CC, .ref CC, true, rfl, upd_same, XC, fun u hu => hu, kit_self, q _⟩
end
end K16
set_option Elab.async false
set_option linter.all false
set_option maxRecDepth 100000
set_option maxHeartbeats 0
namespace K16
open PySem PySem.Spec PyProof.Rows L2 Kb
/-! ### the head: facts by names -/
def d_is_number : He.DefD := ⟨("is_number", none), "is_number", "is_number", defArgs s_is_number, defBody s_is_number, defScope s_is_number, [], []⟩
def d_within : He.DefD := ⟨("within", none), "within", "within", defArgs s_within, defBody s_within, defScope s_within, [], []⟩
def d_is_cell : He.DefD := ⟨("is_cell", none), "is_cell", "is_cell", defArgs s_is_cell, defBody s_is_cell, defScope s_is_cell, [], []⟩
def d_are_cells : He.DefD := ⟨("are_cells", none), "are_cells", "are_cells", defArgs s_are_cells, defBody s_are_cells, defScope s_are_cells, [], []⟩
def d_size_of : He.DefD := ⟨("size_of", none), "size_of", "size_of", defArgs s_size_of, defBody s_size_of, defScope s_size_of, [], []⟩
def d_are_parts : He.DefD := ⟨("are_parts", none), "are_parts", "are_parts", defArgs s_are_parts, defBody s_are_parts, defScope s_are_parts, [], []⟩
def d_sense_in : He.DefD := ⟨("sense_in", none), "sense_in", "sense_in", defArgs s_sense_in, defBody s_sense_in, defScope s_sense_in, [], []⟩
def d_part_at : He.DefD := ⟨("part_at", none), "part_at", "part_at", defArgs s_part_at, defBody s_part_at, defScope s_part_at, [], []⟩
def d_parted : He.DefD := ⟨("parted", none), "parted", "parted", defArgs s_parted, defBody s_parted, defScope s_parted, [], []⟩
def d_l_begun : He.DefD := ⟨("_law_begun", none), "_law_begun", "_law_begun", defArgs s_l_begun, defBody s_l_begun, defScope s_l_begun, [], []⟩
def d_l_mixed : He.DefD := ⟨("_law_mixed", none), "_law_mixed", "_law_mixed", defArgs s_l_mixed, defBody s_l_mixed, defScope s_l_mixed, [], []⟩
def d_l_take : He.DefD := ⟨("_law_take", none), "_law_take", "_law_take", defArgs s_l_take, defBody s_l_take, defScope s_l_take, [], []⟩
def d_l_pick : He.DefD := ⟨("_law_pick", none), "_law_pick", "_law_pick", defArgs s_l_pick, defBody s_l_pick, defScope s_l_pick, [], []⟩
def d_l_caught : He.DefD := ⟨("_law_caught", none), "_law_caught", "_law_caught", defArgs s_l_caught, defBody s_l_caught, defScope s_l_caught, [], []⟩
def d_l_codes : He.DefD := ⟨("_law_codes", none), "_law_codes", "_law_codes", defArgs s_l_codes, defBody s_l_codes, defScope s_l_codes, [], []⟩
def d_l_span : He.DefD := ⟨("_law_span", none), "_law_span", "_law_span", defArgs s_l_span, defBody s_l_span, defScope s_l_span, [], []⟩
def d_l_many : He.DefD := ⟨("_law_many", none), "_law_many", "_law_many", defArgs s_l_many, defBody s_l_many, defScope s_l_many, [], []⟩
def d_l_cells_of : He.DefD := ⟨("_law_cells_of", none), "_law_cells_of", "_law_cells_of", defArgs s_l_cells_of, defBody s_l_cells_of, defScope s_l_cells_of, [], []⟩
def d_l_made : He.DefD := ⟨("_law_made", none), "_law_made", "_law_made", defArgs s_l_made, defBody s_l_made, defScope s_l_made, [], []⟩
def d_l_sense : He.DefD := ⟨("_law_sense", none), "_law_sense", "_law_sense", defArgs s_l_sense, defBody s_l_sense, defScope s_l_sense, [], []⟩
def d_l_walked : He.DefD := ⟨("_law_walked", none), "_law_walked", "_law_walked", defArgs s_l_walked, defBody s_l_walked, defScope s_l_walked, [], []⟩
def d_l_is_walk : He.DefD := ⟨("_law_is_walk", none), "_law_is_walk", "_law_is_walk", defArgs s_l_is_walk, defBody s_l_is_walk, defScope s_l_is_walk, [], []⟩
def d_law : He.DefD := ⟨("law", none), "law", "law", defArgs s_law, defBody s_law, defScope s_law, [], []⟩
def fnL : List He.DefD := [d_is_number, d_within, d_is_cell, d_are_cells, d_size_of, d_are_parts, d_sense_in, d_part_at, d_parted, d_l_begun, d_l_mixed, d_l_take, d_l_pick, d_l_caught, d_l_codes, d_l_span, d_l_many, d_l_cells_of, d_l_made, d_l_sense, d_l_walked, d_l_is_walk, d_law]
def faL : List He.Fa := [.glo "is_number", .glo "within", .glo "is_cell", .glo "are_cells", .glo "size_of", .glo "are_parts", .glo "sense_in", .glo "part_at", .glo "parted", .glo "_law_begun", .glo "_law_mixed", .glo "_law_take", .glo "_law_pick", .glo "_law_caught", .glo "_law_codes", .glo "_law_span", .glo "_law_many", .glo "_law_cells_of", .glo "_law_made", .glo "_law_sense", .glo "_law_walked", .glo "_law_is_walk", .glo "law", .glo "FORMS", .glo "LIMITS", .glo "LinkError", .glo "BadCells", .glo "BadCode", .free "isinstance", .free "int", .free "bool", .free "str", .free "tuple", .free "list", .free "len", .free "zip", .free "range", .free "divmod", .free "abs", .free "min", .free "all", .free "super", .exc "BadCells", .exm "BadCells" "LinkError" true, .exm "BadCode" "LinkError" true]
def tfL : List He.Defn := [("are_cells", none), ("_law_is_walk", none), ("law", none)]
def tsL : List He.Tab := [(fun K => He.ga K "LIMITS", ["r", "p", "c", "k", "f", "L", "d", "D"])]
def z_BadCode : KbAt.Ps := ⟨⟨9, 8, 9, 13⟩, ⟨9, 8, 9, 15⟩, ⟨9, 8, 9, 24⟩, ⟨9, 27, 9, 30⟩, ⟨9, 31, 9, 33⟩, ⟨9, 30, 9, 34⟩, ⟨9, 25, 9, 35⟩, ⟨9, 8, 9, 36⟩, ⟨9, 8, 9, 36⟩, ⟨10, 8, 10, 12⟩, ⟨10, 8, 10, 15⟩, ⟨10, 18, 10, 20⟩, ⟨10, 8, 10, 20⟩, ⟨8, 17, 8, 21⟩, ⟨8, 23, 8, 25⟩⟩
def msL : List (Str × Option Str) := [("BadCode", some "__init__")]
def mvL : List KbHk.FnC := [some ("__init__", "BadCode.__init__", KbAt.prm z_BadCode, .stmts [KbAt.s1 z_BadCode, KbAt.s2 z_BadCode], KbAt.sco, mainGlobals, builtinsNs)]
/-- a written tuple of two -/
def tup2B (K : PySem.W.Frag) (u : Value) (a b : V) : Bool := match u with
  | .ref T => (match K.lookup T with
    | some ⟨.type c, _, .seq its _, _⟩ => decide (c = "tuple") && (match its.toList with
      | [x, y] => He.relB a x && He.relB b y
      | _ => false)
    | _ => false)
  | _ => false
def formE (K : PySem.W.Frag) (e : DictEntry) (q : En) : Bool := keyIs (.inl q.1) e.key && (decide (e.hash = hashInt q.1) && tup2B K e.val (.str q.2.1) (.str q.2.2))
def limE (K : PySem.W.Frag) (e : DictEntry) (q : Str × Int × Int) : Bool := keyIs (.inr q.1) e.key && tup2B K e.val (.int q.2.1) (.int q.2.2)
def allE {α : Type} (f : DictEntry → α → Bool) : List DictEntry → List α → Bool
  | [], [] => true
  | e :: r, q :: l => f e q && allE f r l
  | _, _ => false
def dicB {α : Type} (K : PySem.W.Frag) (a : Addr) (f : DictEntry → α → Bool) (l : List α) : Bool := match K.lookup a with
  | some ⟨.type c, none, .dict es _, sl⟩ => decide (c = "dict") && (sl.isEmpty && (!(a == sysModules) && allE f es.toList l))
  | _ => false
def excB (K : PySem.W.Frag) (C : Addr) : Bool := He.eqO (PySem.W.findIn K (.ref C) "__getattribute__") (some (some (.builtin "BaseException.__getattribute__"))) && (He.eqO (PySem.W.findIn K (.ref C) "__getattr__") (some none) && (PySem.W.hasDictIn K C && (He.eqO (PySem.W.findIn K (.ref C) "__class__") (some (some (.builtin "object.__class__"))) &&
  (He.eqO (PySem.W.specialIn K (.builtin "object.__class__") "__get__") (some (some (.builtin "getset_descriptor.__get__"))) && (decide (PySem.W.takesIn K (.builtin "object.__class__") = some true) && decide (PySem.W.mroIn K C (.type "object") = some true))))))
def exL (K : PySem.W.Frag) : Bool := dicB K (He.ga K "FORMS") (formE K) formL && (dicB K (He.ga K "LIMITS") (limE K) limL && (decide (PySem.W.kitOne K (.ref (He.ga K "BadCode")) (.type "tuple") = some false) && (excB K (He.ga K "BadCells") && (excB K (He.ga K "BadCode") && (KbHk.atB K PySem.Challenge.pw_onebase_k16_whole_cells_parted_one_way.main.file "BadCode.__init__" (He.ga K "BadCode") (He.fAd K ("BadCode", some "__init__")) && (!((He.cT K ("are_cells", none)).2 == (He.cT K ("_law_is_walk", none)).2) && (!((He.cT K ("are_cells", none)).2 == (He.cT K ("law", none)).2) && (!((He.cT K ("_law_is_walk", none)).2 == (He.cT K ("law", none)).2)))))))))
abbrev hk : PySem.W.Hook := KbHk.hookM 5 faL fnL tsL tfL exL msL mvL
theorem code_of_fun {K : PySem.W.Frag} {x q : Str} {st : Stmt} {p : Str × Option Str} {fd : FuncData} (F : Fun K x q st (He.fAd K p) fd) : fd.code = .ref (He.codeOf K p) := by
  obtain ⟨oc, od, kV, doc, pm, an, cdv, ct, osl, rfl, lk, hcd⟩ := F.ex
  obtain ⟨c, rfl⟩ := He.codeIn_ref hcd
  have := He.codeOf_eq lk (c := c) rfl
  rw [this] <;> rfl
theorem tup2_ok {K : PySem.W.Frag} {u : Value} {a b : V} (h : tup2B K u a b = true) : ∃ T, u = .ref T ∧ KT K T [a, b] := by
  unfold tup2B at h
  split at h
  · rename_i T
    split at h
    · rename_i c dd its n sl hl
      obtain ⟨h1, h2⟩ := Bool.and_eq_true_iff.mp h
      split at h2
      · rename_i x y he
        obtain ⟨h3, h4⟩ := Bool.and_eq_true_iff.mp h2
        refine ⟨T, rfl, _, its, n, hl, congrArg Value.type (of_decide_eq_true h1), rfl, ?_, ?_⟩
        · have : its.size = 2 := by rw [← Array.length_toList, he] <;> rfl
          rw [this]
          exact small (by omega)
        · rw [he]
          exact .cons (He.relB_ok h3) (.cons (He.relB_ok h4) .nil)
      · cases h2
    · cases h
  · cases h
theorem forms_of {w : World} {K : PySem.W.Frag} : ∀ {es : List DictEntry} {l : List En}, allE (formE K) es l = true → ∃ kvs, Paired (entOk w) es kvs ∧ Paired (FormOk K) kvs l ∧ kvs.map (·.1) = l.map fun q => (.inl q.1 : Key)
  | [], [], _ => ⟨[], .nil, .nil, rfl⟩
  | [], _ :: _, h => by cases h
  | _ :: _, [], h => by cases h
  | e :: r, q :: l, h => by
    obtain ⟨h1, h2⟩ := Bool.and_eq_true_iff.mp (show (formE K e q && allE (formE K) r l) = true from h)
    obtain ⟨kvs, a1, a2, a3⟩ := forms_of (w := w) h2
    obtain ⟨b1, b2⟩ := Bool.and_eq_true_iff.mp h1
    obtain ⟨b3, b4⟩ := Bool.and_eq_true_iff.mp b2
    obtain ⟨T, hT, hK⟩ := tup2_ok b4
    refine ⟨(.inl q.1, .ref T) :: kvs, .cons ⟨b1, of_decide_eq_true b3, ?_⟩ a1, .cons ⟨rfl, T, rfl, hK⟩ a2, by rw [List.map_cons, List.map_cons, a3]⟩
    rw [hT] <;> rfl
theorem lims_of {w : World} {K : PySem.W.Frag} : ∀ {es : List DictEntry} {l : List (Str × Int × Int)}, allE (limE K) es l = true → PySem.W.KeysLit w.params es → ∃ kvs, Paired (entOk w) es kvs ∧ Paired (LimOk K) kvs l ∧ kvs.map (·.1) = l.map fun q => (.inr q.1 : Key)
  | [], [], _, _ => ⟨[], .nil, .nil, rfl⟩
  | [], _ :: _, h, _ => by cases h
  | _ :: _, [], h, _ => by cases h
  | e :: r, q :: l, h, hk => by
    obtain ⟨h1, h2⟩ := Bool.and_eq_true_iff.mp (show (limE K e q && allE (limE K) r l) = true from h)
    obtain ⟨⟨x, t, hx, hh⟩, hr⟩ := hk
    obtain ⟨kvs, a1, a2, a3⟩ := lims_of (w := w) h2 hr
    obtain ⟨b1, b2⟩ := Bool.and_eq_true_iff.mp h1
    obtain ⟨T, hT, hK⟩ := tup2_ok b2
    have ex : q.1 = x := by
      rcases keyIs_shape b1 with ⟨i, t', h, _⟩ | ⟨x', t', h, h'⟩
      · cases h
      · rw [hx] at h'
        cases h
        cases h'
        rfl
    refine ⟨(.inr q.1, .ref T) :: kvs, .cons ⟨b1, ?_, ?_⟩ a1, .cons ⟨rfl, T, rfl, hK⟩ a2, by rw [List.map_cons, List.map_cons, a3]⟩
    · rw [hh, ex]
      rfl
    · rw [hT] <;> rfl
theorem dic_ok {α : Type} {K : PySem.W.Frag} {a : Addr} {f : DictEntry → α → Bool} {l : List α} (h : dicB K a f l = true) : ∃ es n, K.lookup a = some ⟨.type "dict", none, .dict es n, #[]⟩ ∧ (a == sysModules) = false ∧ allE f es.toList l = true := by
  unfold dicB at h
  split at h
  · rename_i c es n sl hl
    obtain ⟨h1, h2⟩ := Bool.and_eq_true_iff.mp h
    obtain ⟨h3, h4⟩ := Bool.and_eq_true_iff.mp h2
    obtain ⟨h5, h6⟩ := Bool.and_eq_true_iff.mp h4
    have e1 := of_decide_eq_true h1
    have e2 := Array.isEmpty_iff.mp h3
    subst e1 e2
    exact ⟨es, n, hl, by simpa using h5, h6⟩
  · cases h
theorem dicts_mk {w : World} {K : PySem.W.Frag} {aF aL : Addr} (hF : dicB K aF (formE K) formL = true) (hL : dicB K aL (limE K) limL = true) (hk : ∃ es n, KDict K w aL es n) : Dicts w K aF aL := by
  refine ⟨?_, ?_⟩
  · obtain ⟨es, n, h1, h2, h3⟩ := dic_ok hF
    obtain ⟨kvs, a1, a2, a3⟩ := forms_of (w := w) h3
    refine ⟨kvs, ⟨⟨es, n, h1, a1⟩, h2, ?_⟩, a2⟩
    rw [a3]
    decide +kernel
  · obtain ⟨es, n, h1, h2, h3⟩ := dic_ok hL
    obtain ⟨es', n', hd⟩ := hk
    have e := h1.symm.trans hd.at_
    cases e
    obtain ⟨kvs, a1, a2, a3⟩ := lims_of (w := w) h3 hd.lit
    refine ⟨kvs, ⟨⟨es, n, h1, a1⟩, h2, ?_⟩, a2⟩
    rw [a3]
    decide +kernel
theorem exc_of {K : PySem.W.Frag} {C : Addr} (h : excB K C = true) (hs : PySem.W.subIn K (.ref C) (.type "BaseException") = some true) : ExcC K C := by
  unfold excB at h
  obtain ⟨h1, h⟩ := Bool.and_eq_true_iff.mp h
  obtain ⟨h2, h⟩ := Bool.and_eq_true_iff.mp h
  obtain ⟨h3, h⟩ := Bool.and_eq_true_iff.mp h
  obtain ⟨h4, h⟩ := Bool.and_eq_true_iff.mp h
  obtain ⟨h5, h⟩ := Bool.and_eq_true_iff.mp h
  obtain ⟨h6, h7⟩ := Bool.and_eq_true_iff.mp h
  exact ⟨He.eqO_ok h1, He.eqO_ok h2, hs, h3, He.eqO_ok h4, He.eqO_ok h5, of_decide_eq_true h6, of_decide_eq_true h7⟩
theorem all_mk {w : World} {h : Heap} {mg : Str → Option Value} {fa : Addr} {K : PySem.W.Frag} (KX : K.In h) (G : h.Ns mainGlobals mg) (c : He.SaysX faL fnL tsL tfL exL w h K) (cm : msL.map (KbHk.fnC K) = mvL) (hfa : mg "law" = some (.ref fa)) :
    ∃ fd : FuncData, (∀ (s : Shared) (v : Value), BindsTo s fd ⟨[v], []⟩ [("script", v)]) ∧ ∀ base : Heap, K.In base → base.Ns mainGlobals mg → (∀ p ∈ tfL.map (He.cT K), LamX.TabB base mg p.1 p.2) →
      FnOk (PySem.Challenge.rw_onebase_k16_whole_cells_parted_one_way).prog w K mg base CX0 30 fa fd ["script"] (spLaw K (He.cT K ("are_cells", none)).2 (He.cT K ("_law_is_walk", none)).2 (He.cT K ("law", none)).2) := by
  have cd := c.t.d
  obtain ⟨fd_is_number, FD_is_number⟩ := cd.def_ 0 (d := d_is_number) rfl
  have F_is_number : Fun K "is_number" "is_number" s_is_number (He.ga K "is_number") fd_is_number := toFun FD_is_number
  have b_is_number : Binds K fd_is_number ["thing"] [] := F_is_number.binds (ps := ["thing"]) fun _ _ _ _ _ _ us hl => match us, hl with | [_], _ => rfl
  have g_is_number := He.glo_ok KX G (cd.fact 0 (f := .glo "is_number") rfl)
  obtain ⟨fd_within, FD_within⟩ := cd.def_ 1 (d := d_within) rfl
  have F_within : Fun K "within" "within" s_within (He.ga K "within") fd_within := toFun FD_within
  have b_within : Binds K fd_within ["thing", "low", "high"] [] := F_within.binds (ps := ["thing", "low", "high"]) fun _ _ _ _ _ _ us hl => match us, hl with | [_, _, _], _ => rfl
  have g_within := He.glo_ok KX G (cd.fact 1 (f := .glo "within") rfl)
  obtain ⟨fd_is_cell, FD_is_cell⟩ := cd.def_ 2 (d := d_is_cell) rfl
  have F_is_cell : Fun K "is_cell" "is_cell" s_is_cell (He.ga K "is_cell") fd_is_cell := toFun FD_is_cell
  have b_is_cell : Binds K fd_is_cell ["thing"] [] := F_is_cell.binds (ps := ["thing"]) fun _ _ _ _ _ _ us hl => match us, hl with | [_], _ => rfl
  have g_is_cell := He.glo_ok KX G (cd.fact 2 (f := .glo "is_cell") rfl)
  obtain ⟨fd_are_cells, FD_are_cells⟩ := cd.def_ 3 (d := d_are_cells) rfl
  have F_are_cells : Fun K "are_cells" "are_cells" s_are_cells (He.ga K "are_cells") fd_are_cells := toFun FD_are_cells
  have b_are_cells : Binds K fd_are_cells ["thing"] [] := F_are_cells.binds (ps := ["thing"]) fun _ _ _ _ _ _ us hl => match us, hl with | [_], _ => rfl
  have g_are_cells := He.glo_ok KX G (cd.fact 3 (f := .glo "are_cells") rfl)
  obtain ⟨fd_size_of, FD_size_of⟩ := cd.def_ 4 (d := d_size_of) rfl
  have F_size_of : Fun K "size_of" "size_of" s_size_of (He.ga K "size_of") fd_size_of := toFun FD_size_of
  have b_size_of : Binds K fd_size_of ["letters"] [] := F_size_of.binds (ps := ["letters"]) fun _ _ _ _ _ _ us hl => match us, hl with | [_], _ => rfl
  have g_size_of := He.glo_ok KX G (cd.fact 4 (f := .glo "size_of") rfl)
  obtain ⟨fd_are_parts, FD_are_parts⟩ := cd.def_ 5 (d := d_are_parts) rfl
  have F_are_parts : Fun K "are_parts" "are_parts" s_are_parts (He.ga K "are_parts") fd_are_parts := toFun FD_are_parts
  have b_are_parts : Binds K fd_are_parts ["parts", "letters"] [] := F_are_parts.binds (ps := ["parts", "letters"]) fun _ _ _ _ _ _ us hl => match us, hl with | [_, _], _ => rfl
  have g_are_parts := He.glo_ok KX G (cd.fact 5 (f := .glo "are_parts") rfl)
  obtain ⟨fd_sense_in, FD_sense_in⟩ := cd.def_ 6 (d := d_sense_in) rfl
  have F_sense_in : Fun K "sense_in" "sense_in" s_sense_in (He.ga K "sense_in") fd_sense_in := toFun FD_sense_in
  have b_sense_in : Binds K fd_sense_in ["cells", "at"] [] := F_sense_in.binds (ps := ["cells", "at"]) fun _ _ _ _ _ _ us hl => match us, hl with | [_, _], _ => rfl
  have g_sense_in := He.glo_ok KX G (cd.fact 6 (f := .glo "sense_in") rfl)
  obtain ⟨fd_part_at, FD_part_at⟩ := cd.def_ 7 (d := d_part_at) rfl
  have F_part_at : Fun K "part_at" "part_at" s_part_at (He.ga K "part_at") fd_part_at := toFun FD_part_at
  have b_part_at : Binds K fd_part_at ["cells", "at", "letter"] [] := F_part_at.binds (ps := ["cells", "at", "letter"]) fun _ _ _ _ _ _ us hl => match us, hl with | [_, _, _], _ => rfl
  have g_part_at := He.glo_ok KX G (cd.fact 7 (f := .glo "part_at") rfl)
  obtain ⟨fd_parted, FD_parted⟩ := cd.def_ 8 (d := d_parted) rfl
  have F_parted : Fun K "parted" "parted" s_parted (He.ga K "parted") fd_parted := toFun FD_parted
  have b_parted : Binds K fd_parted ["cells"] [] := F_parted.binds (ps := ["cells"]) fun _ _ _ _ _ _ us hl => match us, hl with | [_], _ => rfl
  have g_parted := He.glo_ok KX G (cd.fact 8 (f := .glo "parted") rfl)
  obtain ⟨fd_l_begun, FD_l_begun⟩ := cd.def_ 9 (d := d_l_begun) rfl
  have F_l_begun : Fun K "_law_begun" "_law_begun" s_l_begun (He.ga K "_law_begun") fd_l_begun := toFun FD_l_begun
  have b_l_begun : Binds K fd_l_begun ["script"] [] := F_l_begun.binds (ps := ["script"]) fun _ _ _ _ _ _ us hl => match us, hl with | [_], _ => rfl
  have g_l_begun := He.glo_ok KX G (cd.fact 9 (f := .glo "_law_begun") rfl)
  obtain ⟨fd_l_mixed, FD_l_mixed⟩ := cd.def_ 10 (d := d_l_mixed) rfl
  have F_l_mixed : Fun K "_law_mixed" "_law_mixed" s_l_mixed (He.ga K "_law_mixed") fd_l_mixed := toFun FD_l_mixed
  have b_l_mixed : Binds K fd_l_mixed ["draw"] [] := F_l_mixed.binds (ps := ["draw"]) fun _ _ _ _ _ _ us hl => match us, hl with | [_], _ => rfl
  have g_l_mixed := He.glo_ok KX G (cd.fact 10 (f := .glo "_law_mixed") rfl)
  obtain ⟨fd_l_take, FD_l_take⟩ := cd.def_ 11 (d := d_l_take) rfl
  have F_l_take : Fun K "_law_take" "_law_take" s_l_take (He.ga K "_law_take") fd_l_take := toFun FD_l_take
  have b_l_take : Binds K fd_l_take ["draw", "many"] [] := F_l_take.binds (ps := ["draw", "many"]) fun _ _ _ _ _ _ us hl => match us, hl with | [_, _], _ => rfl
  have g_l_take := He.glo_ok KX G (cd.fact 11 (f := .glo "_law_take") rfl)
  obtain ⟨fd_l_pick, FD_l_pick⟩ := cd.def_ 12 (d := d_l_pick) rfl
  have F_l_pick : Fun K "_law_pick" "_law_pick" s_l_pick (He.ga K "_law_pick") fd_l_pick := toFun FD_l_pick
  have b_l_pick : Binds K fd_l_pick ["draw", "some"] [] := F_l_pick.binds (ps := ["draw", "some"]) fun _ _ _ _ _ _ us hl => match us, hl with | [_, _], _ => rfl
  have g_l_pick := He.glo_ok KX G (cd.fact 12 (f := .glo "_law_pick") rfl)
  obtain ⟨fd_l_caught, FD_l_caught⟩ := cd.def_ 13 (d := d_l_caught) rfl
  have F_l_caught : Fun K "_law_caught" "_law_caught" s_l_caught (He.ga K "_law_caught") fd_l_caught := toFun FD_l_caught
  have b_l_caught : Binds K fd_l_caught ["act"] [] := F_l_caught.binds (ps := ["act"]) fun _ _ _ _ _ _ us hl => match us, hl with | [_], _ => rfl
  have g_l_caught := He.glo_ok KX G (cd.fact 13 (f := .glo "_law_caught") rfl)
  obtain ⟨fd_l_codes, FD_l_codes⟩ := cd.def_ 14 (d := d_l_codes) rfl
  have F_l_codes : Fun K "_law_codes" "_law_codes" s_l_codes (He.ga K "_law_codes") fd_l_codes := toFun FD_l_codes
  have b_l_codes : Binds K fd_l_codes [] [] := F_l_codes.binds (ps := []) fun _ _ _ _ _ _ us hl => match us, hl with | [], _ => rfl
  have g_l_codes := He.glo_ok KX G (cd.fact 14 (f := .glo "_law_codes") rfl)
  obtain ⟨fd_l_span, FD_l_span⟩ := cd.def_ 15 (d := d_l_span) rfl
  have F_l_span : Fun K "_law_span" "_law_span" s_l_span (He.ga K "_law_span") fd_l_span := toFun FD_l_span
  have b_l_span : Binds K fd_l_span ["sign"] [] := F_l_span.binds (ps := ["sign"]) fun _ _ _ _ _ _ us hl => match us, hl with | [_], _ => rfl
  have g_l_span := He.glo_ok KX G (cd.fact 15 (f := .glo "_law_span") rfl)
  obtain ⟨fd_l_many, FD_l_many⟩ := cd.def_ 16 (d := d_l_many) rfl
  have F_l_many : Fun K "_law_many" "_law_many" s_l_many (He.ga K "_law_many") fd_l_many := toFun FD_l_many
  have b_l_many : Binds K fd_l_many ["signs"] [] := F_l_many.binds (ps := ["signs"]) fun _ _ _ _ _ _ us hl => match us, hl with | [_], _ => rfl
  have g_l_many := He.glo_ok KX G (cd.fact 16 (f := .glo "_law_many") rfl)
  obtain ⟨fd_l_cells_of, FD_l_cells_of⟩ := cd.def_ 17 (d := d_l_cells_of) rfl
  have F_l_cells_of : Fun K "_law_cells_of" "_law_cells_of" s_l_cells_of (He.ga K "_law_cells_of") fd_l_cells_of := toFun FD_l_cells_of
  have b_l_cells_of : Binds K fd_l_cells_of ["code", "signs", "parts"] [] := F_l_cells_of.binds (ps := ["code", "signs", "parts"]) fun _ _ _ _ _ _ us hl => match us, hl with | [_, _, _], _ => rfl
  have g_l_cells_of := He.glo_ok KX G (cd.fact 17 (f := .glo "_law_cells_of") rfl)
  obtain ⟨fd_l_made, FD_l_made⟩ := cd.def_ 18 (d := d_l_made) rfl
  have F_l_made : Fun K "_law_made" "_law_made" s_l_made (He.ga K "_law_made") fd_l_made := toFun FD_l_made
  have b_l_made : Binds K fd_l_made ["draw"] [] := F_l_made.binds (ps := ["draw"]) fun _ _ _ _ _ _ us hl => match us, hl with | [_], _ => rfl
  have g_l_made := He.glo_ok KX G (cd.fact 18 (f := .glo "_law_made") rfl)
  obtain ⟨fd_l_sense, FD_l_sense⟩ := cd.def_ 19 (d := d_l_sense) rfl
  have F_l_sense : Fun K "_law_sense" "_law_sense" s_l_sense (He.ga K "_law_sense") fd_l_sense := toFun FD_l_sense
  have b_l_sense : Binds K fd_l_sense ["cells", "at"] [] := F_l_sense.binds (ps := ["cells", "at"]) fun _ _ _ _ _ _ us hl => match us, hl with | [_, _], _ => rfl
  have g_l_sense := He.glo_ok KX G (cd.fact 19 (f := .glo "_law_sense") rfl)
  obtain ⟨fd_l_walked, FD_l_walked⟩ := cd.def_ 20 (d := d_l_walked) rfl
  have F_l_walked : Fun K "_law_walked" "_law_walked" s_l_walked (He.ga K "_law_walked") fd_l_walked := toFun FD_l_walked
  have b_l_walked : Binds K fd_l_walked ["cells"] [] := F_l_walked.binds (ps := ["cells"]) fun _ _ _ _ _ _ us hl => match us, hl with | [_], _ => rfl
  have g_l_walked := He.glo_ok KX G (cd.fact 20 (f := .glo "_law_walked") rfl)
  obtain ⟨fd_l_is_walk, FD_l_is_walk⟩ := cd.def_ 21 (d := d_l_is_walk) rfl
  have F_l_is_walk : Fun K "_law_is_walk" "_law_is_walk" s_l_is_walk (He.ga K "_law_is_walk") fd_l_is_walk := toFun FD_l_is_walk
  have b_l_is_walk : Binds K fd_l_is_walk ["cells"] [] := F_l_is_walk.binds (ps := ["cells"]) fun _ _ _ _ _ _ us hl => match us, hl with | [_], _ => rfl
  have g_l_is_walk := He.glo_ok KX G (cd.fact 21 (f := .glo "_law_is_walk") rfl)
  obtain ⟨fd_law, FD_law⟩ := cd.def_ 22 (d := d_law) rfl
  have F_law : Fun K "law" "law" s_law (He.ga K "law") fd_law := toFun FD_law
  have b_law : Binds K fd_law ["script"] [] := F_law.binds (ps := ["script"]) fun _ _ _ _ _ _ us hl => match us, hl with | [_], _ => rfl
  have g_law := He.glo_ok KX G (cd.fact 22 (f := .glo "law") rfl)
  have g_FORMS := He.glo_ok KX G (cd.fact 23 (f := .glo "FORMS") rfl)
  have g_LIMITS := He.glo_ok KX G (cd.fact 24 (f := .glo "LIMITS") rfl)
  have g_LinkError := He.glo_ok KX G (cd.fact 25 (f := .glo "LinkError") rfl)
  have g_BadCells := He.glo_ok KX G (cd.fact 26 (f := .glo "BadCells") rfl)
  have g_BadCode := He.glo_ok KX G (cd.fact 27 (f := .glo "BadCode") rfl)
  have T : Bi mg := ⟨He.free_ok KX G (cd.fact 28 (f := .free "isinstance") rfl), He.free_ok KX G (cd.fact 29 (f := .free "int") rfl), He.free_ok KX G (cd.fact 30 (f := .free "bool") rfl), He.free_ok KX G (cd.fact 31 (f := .free "str") rfl), He.free_ok KX G (cd.fact 32 (f := .free "tuple") rfl), He.free_ok KX G (cd.fact 33 (f := .free "list") rfl), He.free_ok KX G (cd.fact 34 (f := .free "len") rfl), He.free_ok KX G (cd.fact 35 (f := .free "zip") rfl), He.free_ok KX G (cd.fact 36 (f := .free "range") rfl), He.free_ok KX G (cd.fact 37 (f := .free "divmod") rfl), He.free_ok KX G (cd.fact 38 (f := .free "abs") rfl), He.free_ok KX G (cd.fact 39 (f := .free "min") rfl), He.free_ok KX G (cd.fact 40 (f := .free "all") rfl)⟩
  have gs := He.free_ok KX G (cd.fact 41 (f := .free "super") rfl)
  have m_BadCode : PySem.W.exmOne K (.ref (He.ga K "BadCode")) (.ref (He.ga K "LinkError")) = some true := of_decide_eq_true (cd.fact 44 (f := .exm "BadCode" "LinkError" true) rfl)
  obtain ⟨e1_BadCells, e2_BadCells, e3_BadCells, e4_BadCells⟩ := He.exc_ok (cd.fact 42 (f := .exc "BadCells") rfl)
  have E_BadCells : Ec K mg "BadCells" (He.ga K "BadCells") := ⟨e1_BadCells, g_BadCells, e2_BadCells, e3_BadCells, e4_BadCells⟩
  have m_BadCells : PySem.W.exmOne K (.ref (He.ga K "BadCells")) (.ref (He.ga K "LinkError")) = some true := of_decide_eq_true (cd.fact 43 (f := .exm "BadCells" "LinkError" true) rfl)
  have cx0 := show exL K = true from c.more
  obtain ⟨x0, cx1⟩ := Bool.and_eq_true_iff.mp cx0
  obtain ⟨x1, cx2⟩ := Bool.and_eq_true_iff.mp cx1
  obtain ⟨x2, cx3⟩ := Bool.and_eq_true_iff.mp cx2
  obtain ⟨x3, cx4⟩ := Bool.and_eq_true_iff.mp cx3
  obtain ⟨x4, cx5⟩ := Bool.and_eq_true_iff.mp cx4
  obtain ⟨x5, cx6⟩ := Bool.and_eq_true_iff.mp cx5
  obtain ⟨x6, cx7⟩ := Bool.and_eq_true_iff.mp cx6
  obtain ⟨x7, cx8⟩ := Bool.and_eq_true_iff.mp cx7
  have x8 := cx8
  have X_BadCells := exc_of x3 e3_BadCells
  obtain ⟨cc_BadCode, cda_BadCode, AT_BadCode⟩ := KbHk.txt_of (P := (PySem.Challenge.rw_onebase_k16_whole_cells_parted_one_way).prog) (p := ("BadCode", some "__init__")) (q := "BadCode.__init__") (z := z_BadCode) x5 (by have y := congrArg (fun l => l[0]?) cm; simpa [msL, mvL] using y) (by decide) (by first | rfl | decide +kernel)
  have X_BadCode := exc_of x4 AT_BadCode.exC
  have n12 : (He.cT K ("are_cells", none)).2 ≠ (He.cT K ("_law_is_walk", none)).2 := by simpa using x6
  have n13 : (He.cT K ("are_cells", none)).2 ≠ (He.cT K ("law", none)).2 := by simpa using x7
  have n23 : (He.cT K ("_law_is_walk", none)).2 ≠ (He.cT K ("law", none)).2 := by simpa using x8
  have c_are_cells : fd_are_cells.code = .ref (He.codeOf K ("are_cells", none)) := code_of_fun (p := ("are_cells", none)) F_are_cells
  have c_l_is_walk : fd_l_is_walk.code = .ref (He.codeOf K ("_law_is_walk", none)) := code_of_fun (p := ("_law_is_walk", none)) F_l_is_walk
  have c_law : fd_law.code = .ref (He.codeOf K ("law", none)) := code_of_fun (p := ("law", none)) F_law
  have e := hfa.symm.trans g_law
  cases e
  refine ⟨fd_law, fun s v => FD_law.bindsA (ps := ["script"]) (fun _ _ _ _ _ _ us hl => match us, hl with | [_], _ => rfl) s [v] rfl, fun base KB GB TB => ?_⟩
  have tb1 := TB (He.cT K ("are_cells", none)) (List.mem_map_of_mem (by simp [tfL]))
  have tb2 := TB (He.cT K ("_law_is_walk", none)) (List.mem_map_of_mem (by simp [tfL]))
  have tb3 := TB (He.cT K ("law", none)) (List.mem_map_of_mem (by simp [tfL]))
  have q_num : FnOk (PySem.Challenge.rw_onebase_k16_whole_cells_parted_one_way).prog w K mg base CX0 1 _ fd_is_number ["thing"] spNum := ok_is_number (k := 0) F_is_number T
  have q_within : FnOk (PySem.Challenge.rw_onebase_k16_whole_cells_parted_one_way).prog w K mg base CX0 2 _ fd_within ["thing", "low", "high"] spWithin := ok_within (k := 0) F_within F_is_number b_is_number g_is_number q_num
  have q_cell : FnOk (PySem.Challenge.rw_onebase_k16_whole_cells_parted_one_way).prog w K mg base CX0 3 _ fd_is_cell ["thing"] spCell := ok_is_cell (k := 0) F_is_cell F_within b_within g_within q_within
  have q_cells : FnOk (PySem.Challenge.rw_onebase_k16_whole_cells_parted_one_way).prog w K mg base CX0 7 _ fd_are_cells ["thing"] (spAreCells (He.cT K ("are_cells", none)).2) := ok_are_cells (k := 0) F_are_cells T c_are_cells ⟨tb1.code, tb1.bm, tb1.gP⟩ F_is_cell b_is_cell g_is_cell q_cell
  have q_size : FnOk (PySem.Challenge.rw_onebase_k16_whole_cells_parted_one_way).prog w K mg base CX0 1 _ fd_size_of ["letters"] spSize := ok_size_of (k := 0) F_size_of T
  have q_pat : FnOk (PySem.Challenge.rw_onebase_k16_whole_cells_parted_one_way).prog w K mg base CX0 1 _ fd_part_at ["cells", "at", "letter"] (spPartAt K) := ok_part_at (k := 0) F_part_at T
  have DD : Dicts w K (He.ga K "FORMS") (He.ga K "LIMITS") := dicts_mk x0 x1 (c.t.tab 0 rfl)
  have q_parts : FnOk (PySem.Challenge.rw_onebase_k16_whole_cells_parted_one_way).prog w K mg base CX0 3 _ fd_are_parts ["parts", "letters"] (spAreParts K) := ok_are_parts (k := 0) F_are_parts T DD g_LIMITS F_within b_within g_within q_within
  have q_sin : FnOk (PySem.Challenge.rw_onebase_k16_whole_cells_parted_one_way).prog w K mg base CX0 4 _ fd_sense_in ["cells", "at"] (spSenseIn K) := ok_sense_in (k := 0) F_sense_in T DD g_FORMS F_size_of b_size_of g_size_of q_size F_part_at b_part_at g_part_at q_pat F_are_parts b_are_parts g_are_parts q_parts
  have q_parted : FnOk (PySem.Challenge.rw_onebase_k16_whole_cells_parted_one_way).prog w K mg base (L2.CX (PySem.Challenge.rw_onebase_k16_whole_cells_parted_one_way).prog w) 8 _ fd_parted ["cells"] (spParted (He.cT K ("are_cells", none)).2 (He.ga K "BadCells") (He.ga K "BadCode")) := ok_parted (k := 0) F_parted T E_BadCells AT_BadCode g_BadCode gs F_are_cells b_are_cells g_are_cells q_cells F_sense_in b_sense_in g_sense_in q_sin
  have q_mixed : FnOk (PySem.Challenge.rw_onebase_k16_whole_cells_parted_one_way).prog w K mg base CX0 1 _ fd_l_mixed ["draw"] spMixed := ok_mixed (k := 0) F_l_mixed T
  have q_take : FnOk (PySem.Challenge.rw_onebase_k16_whole_cells_parted_one_way).prog w K mg base CX0 2 _ fd_l_take ["draw", "many"] spTake := ok_take (k := 0) F_l_take T F_l_mixed b_l_mixed g_l_mixed q_mixed
  have q_pick : FnOk (PySem.Challenge.rw_onebase_k16_whole_cells_parted_one_way).prog w K mg base CX0 3 _ fd_l_pick ["draw", "some"] (spPick K) := ok_pick (k := 0) F_l_pick T F_l_take b_l_take g_l_take q_take
  have q_codes : FnOk (PySem.Challenge.rw_onebase_k16_whole_cells_parted_one_way).prog w K mg base CX0 1 _ fd_l_codes [] spCodes := ok_codes (k := 0) F_l_codes
  have q_span : FnOk (PySem.Challenge.rw_onebase_k16_whole_cells_parted_one_way).prog w K mg base CX0 1 _ fd_l_span ["sign"] spSpan := ok_span (k := 0) F_l_span
  have q_many : FnOk (PySem.Challenge.rw_onebase_k16_whole_cells_parted_one_way).prog w K mg base CX0 1 _ fd_l_many ["signs"] spMany := ok_many (k := 0) F_l_many T
  have q_cof : FnOk (PySem.Challenge.rw_onebase_k16_whole_cells_parted_one_way).prog w K mg base CX0 1 _ fd_l_cells_of ["code", "signs", "parts"] (spCellsOf K) := ok_cells_of (k := 0) F_l_cells_of T
  have q_made : FnOk (PySem.Challenge.rw_onebase_k16_whole_cells_parted_one_way).prog w K mg base CX0 4 _ fd_l_made ["draw"] spMade := ok_made (k := 0) F_l_made T F_l_pick b_l_pick g_l_pick q_pick F_l_codes b_l_codes g_l_codes q_codes F_l_span b_l_span g_l_span q_span F_l_take b_l_take g_l_take q_take F_l_cells_of b_l_cells_of g_l_cells_of q_cof
  have q_lsense : FnOk (PySem.Challenge.rw_onebase_k16_whole_cells_parted_one_way).prog w K mg base CX0 2 _ fd_l_sense ["cells", "at"] (spSenseIn K) := ok_l_sense (k := 0) F_l_sense T F_l_codes b_l_codes g_l_codes q_codes F_l_many b_l_many g_l_many q_many F_l_span b_l_span g_l_span q_span
  have q_walked : FnOk (PySem.Challenge.rw_onebase_k16_whole_cells_parted_one_way).prog w K mg base CX0 3 _ fd_l_walked ["cells"] (spWalked K) := ok_walked (k := 0) F_l_walked T F_l_sense b_l_sense g_l_sense q_lsense
  have q_isw : FnOk (PySem.Challenge.rw_onebase_k16_whole_cells_parted_one_way).prog w K mg base CX0 13 _ fd_l_is_walk ["cells"] (spIsWalk (He.cT K ("are_cells", none)).2 (He.cT K ("_law_is_walk", none)).2) := ok_is_walk (k := 0) F_l_is_walk T c_l_is_walk tb2 g_BadCode X_BadCode AT_BadCode.noN g_LinkError m_BadCells m_BadCode F_l_walked b_l_walked g_l_walked q_walked F_l_caught b_l_caught g_l_caught F_parted b_parted g_parted q_parted
  have q_begun : FnOk (PySem.Challenge.rw_onebase_k16_whole_cells_parted_one_way).prog w K mg base CX0 1 _ fd_l_begun ["script"] (spBegun K) := ok_begun (k := 0) F_l_begun T
  exact ok_law F_law T c_law tb3 E_BadCells X_BadCells X_BadCode (of_decide_eq_true x2) g_LinkError m_BadCells m_BadCode F_l_begun b_l_begun g_l_begun (q_begun.mono (by decide)) F_l_take b_l_take g_l_take (q_take.mono (by decide)) F_l_made b_l_made g_l_made (q_made.mono (by decide)) F_l_pick b_l_pick g_l_pick (q_pick.mono (by decide)) F_l_is_walk b_l_is_walk g_l_is_walk (q_isw.mono (by decide)) F_parted b_parted g_parted (q_parted.mono (by decide)) F_l_caught b_l_caught g_l_caught
theorem tabs_ne {w : World} {h : Heap} {K : PySem.W.Frag} (c : He.SaysX faL fnL tsL tfL exL w h K) : (He.cT K ("are_cells", none)).2 ≠ (He.cT K ("_law_is_walk", none)).2 ∧ (He.cT K ("are_cells", none)).2 ≠ (He.cT K ("law", none)).2 ∧ (He.cT K ("_law_is_walk", none)).2 ≠ (He.cT K ("law", none)).2 := by
  have cx0 := show exL K = true from c.more
  obtain ⟨x0, cx1⟩ := Bool.and_eq_true_iff.mp cx0
  obtain ⟨x1, cx2⟩ := Bool.and_eq_true_iff.mp cx1
  obtain ⟨x2, cx3⟩ := Bool.and_eq_true_iff.mp cx2
  obtain ⟨x3, cx4⟩ := Bool.and_eq_true_iff.mp cx3
  obtain ⟨x4, cx5⟩ := Bool.and_eq_true_iff.mp cx4
  obtain ⟨x5, cx6⟩ := Bool.and_eq_true_iff.mp cx5
  obtain ⟨x6, cx7⟩ := Bool.and_eq_true_iff.mp cx6
  obtain ⟨x7, cx8⟩ := Bool.and_eq_true_iff.mp cx7
  have x8 := cx8
  exact ⟨by simpa using x6, by simpa using x7, by simpa using x8⟩
theorem tab0G {H : Hp} {P : Addr} (h : H P = some (.tbl #[])) : GxR.TabG H P := ⟨#[], h, trivial⟩
theorem tab0S {H : Hp} {P : Addr} {q : Str} (h : H P = some (.tbl #[])) : LamX.TabS H P q := ⟨#[], h, trivial, fun _ _ z => by cases z⟩
end K16
set_option Elab.async false
set_option linter.all false
set_option maxRecDepth 100000
open PySem PySem.W PySem.Calls PyProof.Rows
set_option maxHeartbeats 0 in
theorem PySem.Challenge.cw_onebase_k16_whole_cells_parted_one_way_holds : PySem.Challenge.rw_onebase_k16_whole_cells_parted_one_way.Holds := by
  w_on; o_law; o_head (K16.hk); (case hw => w_witness2)
  k_fill
  refine LamX.walk_ofTsE (l := PySem.Challenge.rw_onebase_k16_whole_cells_parted_one_way) (n := 63) (k := 30) (x := "script") (CX := fun _ => L2.CX0) rfl (by decide) rfl ⟨rfl, by decide, by decide⟩ ?F (fun _ _ _ _ _ h => h)
  case F =>
    intro w mg fa h Y G hmg
    obtain ⟨K, KX, c, cm⟩ := Y
    obtain ⟨fd, hb, hF⟩ := K16.all_mk (w := w) KX G c cm hmg
    refine ⟨K, KX, fd, K16.tfL.map (He.cT K), _, fun p hp => ?_, fun p hp => ?_, fun p hp => ?_, hb, fun H a ns hl _ hT hS => ?_, hF⟩
    · obtain ⟨q, hq, rfl⟩ := List.mem_map.mp hp
      exact c.empty q hq
    · obtain ⟨q, hq, rfl⟩ := List.mem_map.mp hp
      exact c.out q hq
    · obtain ⟨q, hq, rfl⟩ := List.mem_map.mp hp
      exact PySem.W.codeHd_of_K KX (c.hd q hq)
    · obtain ⟨n12, n13, n23⟩ := K16.tabs_ne c
      exact ⟨a, ns, rfl, hS, hl, K16.tab0G (hT _ (List.mem_map_of_mem (by simp [K16.tfL]))), K16.tab0S (hT _ (List.mem_map_of_mem (by simp [K16.tfL]))), K16.tab0S (hT _ (List.mem_map_of_mem (by simp [K16.tfL]))), n12, n13, n23, fun _ => rfl⟩
