import PyProof.Rows.All
import Wide.All
import OpenK.AllK
import Wide.FinOn
import HandS.ForMost
import HandS.ForExc
import HandS.Lambda
import HandS.Defaults
import HandS.WordsExc
import HandS.AnyAll
import HandS.GenList
import KE.GoesNew
import KE.GoesMore
import HandS.EndTab
import HandS.IsInst
import HandS.ExcIs
import HandS.Flow
import HandS.Conv
import HandS.Star
import PyProof.Draws
import PyProof.EnumMake
import HandS.MakeKwOnly
import HandS.DictComp
import HandS.Deep
import HandS.SetKeys
import HandS.SortOrd
import HandS.TupLe
import HandS.ListItems
import HandS.StrMore
import HandS.TupAny
import HandS.SortInts
import HandS.HeadHook4
import HandS.Style
import HandS.Iter
import HandS.More
import HandS.CallLocal
import HandS.Nested
import PyProof.FString
import PyProof.FString4
import KE.KFromBytes
import KE.KExcSuper
import HandS.Base
import HandS.Call
import HandS.Exc
import KE.KExcIs
import HandS.Head0
import HandS.Head1
import HandS.Head2
import HandS.HeadEnd
import HandS.HeadHook1
import HandS.HeadHook2
import HandS.HeadHook3
import HandS.HeadWalk
import HandS.NestedK
import PyProof.StrLawsIn
import PySem.Challenge.RW_onebase_k78_fewest_steps_and_most_rifts
set_option Elab.async false
set_option linter.all false
set_option maxRecDepth 100000
set_option maxHeartbeats 2000000
namespace Kb
open PySem PySem.Spec PyProof.Rows L2
/-! ### what walks a list or a tuple -/
def iLT (K : PySem.W.Frag) (tl : TE) : TI := fun σ H R => tl σ H fun x H1 => ∃ a, x = .ref a ∧ (((∃ xs, SqL K H1 a xs) ∧ R (Itl K a) H1) ∨ ((∃ xs, SqT K H1 a xs) ∧ R (Itt K a) H1))
section
variable {X : Cx} {tg : Expr}
theorem pi_LT {l : Expr} {tl : TE} (hl : PE X l tl) : PI X tg l (iLT X.K tl) := by
  refine ⟨fun pins s σ H R I h => ?_⟩
  refine thn (hl.run pins s σ H _ I h) fun v s1 ⟨x, H1, I1, r1, q1⟩ => ?_
  obtain ⟨a, e, ⟨⟨xs, hq⟩, q⟩ | ⟨⟨xs, hq⟩, q⟩⟩ := q1
  · subst e
    cases r1
    obtain ⟨its, rv, p, hz⟩ := I1.list hq
    refine wpAny_pyIter_list p.isList ?_
    refine ⟨s1.heap.objs.size, [s1.heap.objs.size], _, _, H1, rfl, I1.kept (t' := s1.toks) fun b o e => Heap.get?_push_of_some _ e, turn_list a _, ⟨_, Heap.get?_push_size _ rfl, rfl, rfl⟩, fun b hb => ?_, q⟩
    have e : b = s1.heap.objs.size := by simpa using hb
    subst e
    exact I1.fpOk (Nat.le_refl _) (I1.hok.fresh (Nat.le_refl _))
  · subst e
    cases r1
    obtain ⟨its, rv, p, hz⟩ := I1.tuple hq
    refine wpAny_pyIter_tuple (show s1.heap.IsTuple a its.toArray from p) ?_
    refine ⟨s1.heap.objs.size, [s1.heap.objs.size], _, _, H1, rfl, I1.kept (t' := s1.toks) fun b o e => Heap.get?_push_of_some _ e, turn_tuple a _, ⟨_, Heap.get?_push_size _ rfl, rfl, rfl⟩, fun b hb => ?_, q⟩
    have e : b = s1.heap.objs.size := by simpa using hb
    subst e
    exact I1.fpOk (Nat.le_refl _) (I1.hok.fresh (Nat.le_refl _))
end
/-! ### defs by place -/
section
variable {P : Program} {w : World} {K : PySem.W.Frag} {mg : Str → Option Value} {base : Heap} {x qual : Str} {st : Stmt} {f : Addr} {fd : FuncData}
theorem toFun (F : FunD K x qual (defArgs st) (defBody st) (defScope st) [] [] f fd) : Fun K x qual st f fd := by
  obtain ⟨oc, od, dV, kV, doc, pm, an, cdv, ct, osl, e, lk, hcd, hD, hK⟩ := F.ex
  rcases hD with ⟨_, rfl⟩ | ⟨e, _⟩
  · exact ⟨⟨oc, od, kV, doc, pm, an, cdv, ct, osl, e, lk, hcd⟩, F.kp⟩
  · exact absurd rfl e
/-- as Fun.ok, the def's code object known -/
theorem okC {CX : CXT} {N ps : List Str} {k : Nat} {sp : Sp} {c : Addr} (F : Fun K x qual st f fd) (hc : fd.code = .ref c) (S : FnScope N ps (defScope st)) (len : ∀ vs H Q E, sp vs H Q E → vs.length = ps.length)
    (hbody : ∀ (A : Around) (outer : List Env) (s : Shared) (H : Hp) (vs : List V) (Q : VK) (E : XK), Room k (A.deeper (envOfC qual (defScope st) s.heap.objs.size f (.ref c))) → sp vs H Q E →
      ∃ t, PSs (cxOf CX P w K mg base N qual (defScope st) f (.ref c) A outer s H E) (defBody st) t ∧ t { nx := fun _ H' => Q .non H', rt := Q } (start N vs) H) : FnOk P w K mg base CX (k + 1) f fd ps sp := by
  obtain ⟨oc, od, kV, doc, pm, an, cdv, ct, osl, rfl, lk, hcd⟩ := F.ex
  have e : cdv = .ref c := hc
  subst e
  exact fn_of lk hcd S len fun A outer s H vs Q E hr hsp => hbody A outer s H vs Q E hr hsp
theorem okC0 {N ps : List Str} {k : Nat} {sp : Sp} {c : Addr} (F : Fun K x qual st f fd) (hc : fd.code = .ref c) (S : FnScope N ps (defScope st)) (len : ∀ vs H Q E, sp vs H Q E → vs.length = ps.length)
    (hbody : ∀ (A : Around) (outer : List Env) (s : Shared) (H : Hp) (vs : List V) (Q : VK) (E : XK), Room k (A.deeper (envOfC qual (defScope st) s.heap.objs.size f (.ref c))) → sp vs H Q E →
      ∃ t, PSs (cxOf CX0 P w K mg base N qual (defScope st) f (.ref c) A outer s H E).nox (defBody st) t ∧ t { nx := fun _ H' => Q .non H', rt := Q } (start N vs) H) : FnOk P w K mg base CX0 (k + 1) f fd ps sp :=
  okC F hc S len fun A outer s H vs Q E hr hsp => let ⟨t, h, q⟩ := hbody A outer s H vs Q E hr hsp; ⟨t, h.nox, q⟩
end
end Kb
set_option Elab.async false
set_option linter.all false
set_option maxRecDepth 100000
set_option maxHeartbeats 2000000
namespace Kb
open PySem PySem.Spec PyProof.Rows L2 GenW
/-! ### all, any of a generator expression, its element read over the layer -/
/-- the generator expression's own names; captured names that the def has; its own are no names of the def -/
structure GenOk (N : List Str) (sc scope : Scope) (own : List Str) : Prop where
  kind : scope.kind = .function
  co : scope.isCoroutine = false
  cell : ∀ y ∈ scope.names, y.2 ≠ .cell
  dot : scope.names.lookup (".0" : Str) = some NameKind.local
  free : ∀ y ∈ scope.names, y.2 = .free → sc.names.lookup y.1 = some .cell ∨ sc.names.lookup y.1 = some .free
  out : ∀ y ∈ scope.names, y.2 = .local → y.1 ∉ N
  nd : (N ++ own).Nodup
def genB (N : List Str) (sc scope : Scope) (own : List Str) : Bool :=
  decide (scope.kind = .function) && !scope.isCoroutine && decide (scope.names.lookup (".0" : Str) = some NameKind.local) && decide ((N ++ own).Nodup) &&
    scope.names.all fun y => !decide (y.2 = .cell) && (!decide (y.2 = .free) || decide (sc.names.lookup y.1 = some .cell) || decide (sc.names.lookup y.1 = some .free)) && (!decide (y.2 = .local) || decide (y.1 ∉ N))
theorem genOk_by {N : List Str} {sc scope : Scope} {own : List Str} (h : genB N sc scope own = true) : GenOk N sc scope own := by
  unfold genB at h
  simp only [Bool.and_eq_true, Bool.or_eq_true, Bool.not_eq_true', decide_eq_true_eq, decide_eq_false_iff_not, List.all_eq_true] at h
  obtain ⟨⟨⟨⟨h1, h2⟩, h3⟩, h4⟩, h5⟩ := h
  refine ⟨h1, h2, fun y hy => (h5 y hy).1.1, h3, fun y hy e => ?_, fun y hy e => ?_, h4⟩
  · rcases (h5 y hy).1.2 with (z | z) | z
    · exact absurd e z
    · exact .inl z
    · exact .inr z
  · rcases (h5 y hy).2 with z | z
    · exact absurd e z
    · exact z
/-- the context of its frame -/
abbrev gcx (X : Cx) (s : Shared) (H : Hp) (scope : Scope) (C : Addr) (code : Value) (bi : Addr) (own : List Str) (fp : List Addr) : Cx :=
  { X with A := X.A.in1.in1.deeper (genEnv scope (cloFrom X.env.cells scope.names []) C code bi X.env), N := X.N ++ own, s_0 := s, H_0 := H, env := genEnv scope (cloFrom X.env.cells scope.names []) C code bi X.env, outer := X.stack, stack := genEnv scope (cloFrom X.env.cells scope.names []) C code bi X.env :: X.stack, ex := fp, fn := fun _ => false, calm := true, pn := [], xe := fun _ _ => False }
structure Woken (s s' : Shared) : Prop where
  heap : s'.heap = s.heap
  os : s'.os = s.os
  bare : AllBare s'.gens
section
variable {X : Cx} {pins : List (Addr × Obj)} {σ : L2.St} {H : Hp} {s s' : Shared}
theorem inv_woken (I : Inv X pins σ H s) (z : Woken s s') : Inv X pins σ H s' := by
  obtain ⟨h, g, d, t, o⟩ := s'
  obtain ⟨z1, z2, z3⟩ := z
  dsimp only at z1 z2
  subst z1 z2
  exact ⟨I.ok, I.os, z3, I.base, I.loc, I.cell, I.free, I.freeC, I.pin, I.hok, I.len⟩
theorem Inv.nb (I : Inv X pins σ H s) : ∀ p ∈ X.pn ++ pins, p.1 < s.heap.objs.size := fun p hp => Heap.lt_size (I.pin p hp).1
/-- the generator's frame is made: its context begins -/
theorem gen_start {scope : Scope} {own : List Str} {fp : List Addr} {code : Value} {it : Addr} {h' : Heap} {go : Obj} {gs : Array GenState} {tk : Nat} (hc : X.calm = true) (I : Inv X pins σ H s) (ok : GenOk X.N X.env.scope scope own) (hfp : ∀ b ∈ fp, FpOk X pins H b ∧ b < s.heap.objs.size)
    (hn : h'.Ns s.heap.objs.size (fun y => if y = ".0" then some (.ref it) else none)) (hk : ∀ b o, s.heap.get? b = some o → h'.get? b = some o) (hsz : h'.objs.size = s.heap.objs.size + 1) (hb : AllBare gs) (hgd : ∀ v, go.data ≠ .cell v) (hgf : go.isFreed = false) :
    Inv (gcx X s H scope s.heap.objs.size code builtinsNs own fp) [(h'.objs.size, go)] (σ ++ List.replicate own.length none) H { s with gens := gs, toks := tk, heap := h'.push go } := by
  have hfree : ∀ y ∈ scope.names, y.2 = .free → ∃ c, X.env.cells.lookup y.1 = some c := fun y hy e => by
    rcases ok.free y hy e with k | k
    · exact I.ok.has _ (.inl k)
    · exact I.ok.has _ (.inr k)
  have cm : ∀ {y c}, (cloFrom X.env.cells scope.names []).lookup y = some c → X.env.cells.lookup y = some c := fun {y c} e => by
    rcases cloFrom_mem (PySem.mem_of_lookup e) with hm | ⟨h1, h2⟩
    · cases hm
    · obtain ⟨c1, hc⟩ := hfree _ h1 rfl
      have hc : X.env.cells.lookup y = some c1 := hc
      have e2 : c = c1 := by
        rw [h2, hc] <;> rfl
      rw [e2]
      exact hc
  have look : ∀ {y}, scope.names.lookup y = some .free → ∃ c, (cloFrom X.env.cells scope.names []).lookup y = some c := fun {y} hl => by
    have hy : (y, NameKind.free) ∈ scope.names := PySem.mem_of_lookup hl
    exact mem_lookup (cloFrom_has (cells := X.env.cells) (acc := []) hy)
  have clt : ∀ {y c}, X.env.cells.lookup y = some c → c < s.heap.objs.size := fun {y c} e => let ⟨v, z⟩ := I.cell y c e; z.lt
  have kp : ∀ b o, s.heap.get? b = some o → (h'.push go).get? b = some o := fun b o e => Heap.get?_push_of_some _ (hk b o e)
  have cellK : ∀ {c : Addr} {v : Option Value}, s.heap.IsCell c v → (h'.push go).IsCell c v := fun {c v} ⟨o, ho, hd⟩ => ⟨o, kp _ _ ho, hd⟩
  have frL : ∀ b ∈ frs X.stack, b < s.heap.objs.size := fun b hb => by
    obtain ⟨_, o, ho, _⟩ := I.stack.mem hb
    exact Heap.lt_size ho
  refine ⟨⟨I.ok.mod, ok.kind, I.ok.glob, rfl, Nat.le_refl _, fun y z c e1 e2 => I.ok.inj y z c (cm e1) (cm e2), fun y hy => ?_, fun y c z _ => ?_, fun _ => I.ok.hd hc, Around.frames_deeper I.ok.frames, .inr ⟨rfl, rfl⟩, fun b hb => ⟨?_, fun y c e z => ?_⟩, I.bs, Nat.le_trans I.ok.bsz I.sz, fun b o e hb => ?_, fun b hb z => ?_, I.stack, I.stkFree⟩,
    rfl, hb, Un.kept kp, ⟨_, hn.push _, fun i y v e1 e2 e3 => ?_⟩, fun y c e => ?_, I.hok.fresh (Nat.le_refl _), fun y c e => ?_, fun p hp => ?_, I.hok.kept kp, ?_⟩
  · have hy : scope.names.lookup y = some .cell ∨ scope.names.lookup y = some .free := hy
    rcases hy with hy | hy
    · exact absurd rfl (ok.cell _ (PySem.mem_of_lookup hy))
    · exact look hy
  · have z : false = true := z
    cases z
  · exact Nat.ne_of_lt (hfp b hb).2
  · have e : (cloFrom X.env.cells scope.names []).lookup y = some c := e
    exact (hfp b hb).1.2.2.2.2.1 y c (cm e) z
  · rcases (hfp b hb).1.2.2.2.1 with z | z
    · exact I.ok.noex b o e z
    · have h1 := Heap.lt_size e
      exact absurd (Nat.lt_of_lt_of_le (Nat.lt_of_lt_of_le h1 I.ok.bsz) z) (Nat.lt_irrefl _)
  · rcases List.mem_cons.mp (I.stkSub b z) with q | q
    · exact (hfp b hb).1.2.1 q
    · exact (hfp b hb).1.2.2.1 q
  · have e3 : Vis scope y := e3
    have lenσ := I.len
    have hi : i < σ.length := by
      by_cases hi : i < σ.length
      · exact hi
      · rw [List.getElem?_append_right (by omega), List.getElem?_replicate] at e2
        split at e2 <;> cases e2
    rw [List.getElem?_append_left hi] at e2
    have e1' : X.N[i]? = some y := by
      have q : (X.N ++ own)[i]? = some y := e1
      rw [List.getElem?_append_left (by omega)] at q
      exact q
    rcases e3 with k | k | k
    · exact absurd (List.mem_of_getElem? e1') (ok.out _ (PySem.mem_of_lookup k) rfl)
    · exact absurd rfl (ok.cell _ (PySem.mem_of_lookup k))
    · obtain ⟨m, hn0, hl⟩ := I.loc
      have hvis : Vis X.env.scope y := (ok.free _ (PySem.mem_of_lookup k) rfl).elim (fun k => .inr (.inl k)) (fun k => .inr (.inr k))
      obtain ⟨w', r, q⟩ := hl i y v e1' e2 hvis
      obtain ⟨c2, h2⟩ := look k
      refine ⟨w', r, .inr ⟨.inr k, c2, h2, ?_⟩⟩
      have c1 := cm h2
      rcases q with ⟨k', _⟩ | ⟨_, c3, e', z⟩
      · have k' : X.env.scope.names.lookup y = some .local := k'
        rcases ok.free _ (PySem.mem_of_lookup k) rfl with k2 | k2 <;> rw [show X.env.scope.names.lookup y = _ from k2] at k' <;> cases k'
      · rw [c1] at e'
        cases e'
        exact cellK z
  · obtain ⟨w', z⟩ := I.cell y c (cm e)
    exact ⟨w', cellK z⟩
  · exact I.freeC y c (cm e)
  · have hp : p = (h'.objs.size, go) := by
      have q : p ∈ ([] : List (Addr × Obj)) ++ [(h'.objs.size, go)] := hp
      simpa using q
    rw [hp]
    refine ⟨Heap.get?_push_size _ hgf, I.hok.fresh (by show s.heap.objs.size ≤ h'.objs.size; omega), ?_, fun hb => ?_, hgd⟩
    · show h'.objs.size ≠ s.heap.objs.size
      omega
    · have := frL _ hb
      have q : h'.objs.size < s.heap.objs.size := this
      omega
  · rw [List.length_append, List.length_append, I.len, List.length_replicate]
end
/-- where a generator expression under all (stopOn false) or any (true) hands out -/
def AY (Xg : Cx) (pins : List (Addr × Obj)) (σg : L2.St) (stopOn : Bool) (Qf : Hp → Prop) : Protocol := fun _ _ v s kap =>
  ∃ (H : Hp) (b : Bool), v = .bool b ∧ Inv Xg pins σg H s ∧ (b = stopOn → Qf H) ∧ (b = !stopOn → ∀ s', Woken s s' → kap (.send .none) s')
def AR (Xg : Cx) (pins : List (Addr × Obj)) (σg : L2.St) (Qe : Hp → Prop) : GenEnd := fun _ _ r s => ((r = .ok (.ret .none) ∨ r = .ok .next) ∧ ∃ H, Inv Xg pins σg H s ∧ Qe H) ∨ ∃ e, r = .error e ∧ False
theorem over_gen {A : Around} {elt tg iter : Expr} {scope : Scope} {pos : Pos} {it : Addr} {env : Env} : A.over (.compLoop (.GeneratorExp elt [⟨tg, iter, [], 0⟩] scope pos) 0 (.ref it) .none env) [] = A.deeper env := by
  first
    | rfl
    | (obtain ⟨hd, d, fr, gs, u⟩ := A; simp [Around.over, Around.deeper, marksOver, frameCount, unitsOf, envsOf, guardsOf, pushEnvs, pushGuards, Code.envs, Code.env?, Code.isFrame, Code.guards, Code.isGuard, Code.weight, Code.frames, Code.isCreation, Code.isCaller, Code.cUnits])
/-- what is asked of the turns -/
def Turns (J : It) (g : TG) (te : TE) (σg : L2.St) (n : Nat) (stopOn : Bool) (Qe Qf : Hp → Prop) (W : Nat → Nat → Hp → Prop) : Prop := ∀ i m H, W i m H →
  (J.stop i H ∧ Qe H) ∨ (J.go i H ∧ ∀ x H', J.yld i H x H' → g x σg H' fun σ2 H2 => σ2.take n = σg.take n ∧ te σ2 H2 fun y H3 => ∃ b, y = .bl b ∧ (b = stopOn → Qf H3) ∧ (b = !stopOn → ∃ m', m' < m ∧ W (i + 1) m' H3))
section
variable {Xg : Cx} {pins : List (Addr × Obj)} {σg : L2.St} {A0 : Around} {elt tg iter : Expr} {scope : Scope} {pos : Pos} {it : Addr} {fp : List Addr} {tn : Nat → Heap → Prop} {J : It} {g : TG} {te : TE} {stopOn : Bool} {Qe Qf : Hp → Prop} {W : Nat → Nat → Hp → Prop} {k : Nat}
theorem seg_all (hA : A0.over (.compLoop (.GeneratorExp elt [⟨tg, iter, [], 0⟩] scope pos) 0 (.ref it) .none Xg.env) [] = Xg.A) (hxe : Xg.xe = fun _ _ => False) (hpn : Xg.pn = []) (hex : Xg.ex = fp) (hc : Xg.calm = true) (hco : Xg.env.scope.isCoroutine = false)
    (T : Turn Xg.prog Xg.w Xg.K tg J fp it tn) (pg : PG Xg tg g) (pe : PE Xg elt te) (hpf : ∀ b ∈ fp, ∀ p ∈ pins, p.1 ≠ b) (hσ : σg = σg.take k ++ List.replicate (σg.length - k) none) (turn : Turns J g te σg k stopOn Qe Qf W) :
    ∀ (m n i : Nat) (s₀ s : Shared) (H : Hp), m < n → W i m H → Inv Xg pins σg H s → tn i s.heap → (∀ b ∈ fp, H b = none) →
      Seg (model Xg.prog Xg.w) A0 (AR Xg pins σg Qe) (AY Xg pins σg stopOn Qf) n s₀ (.compLoop (.GeneratorExp elt [⟨tg, iter, [], 0⟩] scope pos) 0 (.ref it) .none Xg.env)
        ((model Xg.prog Xg.w).den (.compLoop (.GeneratorExp elt [⟨tg, iter, [], 0⟩] scope pos) 0 (.ref it) .none Xg.env)) [] s := by
  have stat : ∀ {σ' : L2.St} {H' : Hp} {s' : Shared}, Inv Xg pins σ' H' s' → (∀ b ∈ fp, H' b = none) → ∀ b ∈ fp, FpOk Xg pins H' b := fun {σ' H' s'} I' hn b hb =>
    ⟨hn b hb, (I'.ok.exf b (by rw [hex]; exact hb)).1, I'.ok.exfs b (by rw [hex]; exact hb), .inl (by rw [hex]; exact hb), fun x c e => (I'.ok.exf b (by rw [hex]; exact hb)).2 x c e, fun p hp => hpf b hb p (by rw [hpn] at hp; exact hp)⟩
  intro m
  induction m using Nat.strongRecOn with
  | ind m ih =>
    intro n i s₀ s H hmn w I st hn
    show Seg _ A0 _ _ _ s₀ _ ((compTurn (.GeneratorExp elt [⟨tg, iter, [], 0⟩] scope pos) 0 (.ref it) .none Xg.env).onRaise (leaving Xg.env)) [] s
    rw [compTurn_gen, Sem.onRaise_eq_wrap]
    refine seg_bind_wrap (wpAny_standAt ?_)
    refine seg_bind_wrap ?_
    rw [hA]
    rcases turn i m H w with ⟨stop, qq⟩ | ⟨go, step⟩
    · refine wpAny_mono (T.done Xg rfl rfl rfl hc i pins s _ H (fun _ _ => False) I (stat I hn) st stop) (fun r s6 h6 => ?_) (fun _ _ z => z.elim)
      obtain ⟨hr, I6⟩ := h6
      subst hr
      exact seg_end (.ok .next) (.inl ⟨.inr rfl, H, I6, qq⟩)
    · refine wpAny_mono (T.item Xg rfl rfl rfl hc i pins s _ H (fun _ _ => False) I (stat I hn) st go) (fun r s6 h6 => ?_) (fun _ _ z => z.elim)
      obtain ⟨u, hr, h6⟩ := h6
      subst hr
      refine seg_bind_wrap ?_
      rw [hA]
      refine wpAny_mono h6 (fun _ s7 h7 => ?_) (fun _ _ z => z.elim)
      obtain ⟨x, H7, I7, r7, y7, st7, n7⟩ := h7
      have I7' := I7.pinned (stat I7 n7) (T.obj _ _ st7)
      refine seg_bind_wrap ?_
      rw [hA]
      refine wpAny_mono (pg.run _ s7 _ H7 x u _ I7' r7 (step x H7 y7)) (fun _ s8 h8 => ?_) (fun _ _ z => by rw [hxe] at z; exact z.elim)
      obtain ⟨σ8, H8, I8, hw8, q8⟩ := h8
      refine seg_bind_wrap (wpAny_pure ?_)
      simp only [List.forIn_nil, if_true]
      have hy : ∀ v, yieldOut Xg.env v = yieldValue v := fun v => by simp only [yieldOut, hco, Bool.false_eq_true, if_false]
      simp only [hy]
      rw [Sem.bind_eq_wrap', Sem.bind_eq_wrap', Sem.wrap_wrap, Sem.wrap_wrap]
      refine seg_wrap ?_
      rw [hA]
      refine wpAny_mono (pe.run _ s8 σ8 H8 _ I8 q8) (fun z s10 h10 => ?_) (fun _ _ z => by rw [hxe] at z; exact z.elim)
      obtain ⟨yv, H10, I10, r10, b, eb, hf, ht⟩ := h10
      subst eb
      obtain rfl : z = Value.bool b := r10
      have pin' : ∀ b ∈ fp, ∀ o, s7.heap.get? b = some o → s10.heap.get? b = some o ∧ H10 b = none := fun b hb o e =>
        let z := I10.pin (b, o) (List.mem_append_right _ (List.mem_append_right _ (mem_pinsAt hb e)))
        ⟨z.1, z.2.1⟩
      have hl : σg.length = σ8.length := I.len.trans I8.len.symm
      have J10 : Inv Xg pins σg H10 s10 := (I10.unpinned (pins := pins)).weak hl (fun j v e => by
        rw [hσ] at e
        by_cases hj : j < (σg.take k).length
        · rw [List.getElem?_append_left hj] at e
          have e2 : (σ8.take k)[j]? = some (some v) := by rw [hw8]; exact e
          have hjk : j < k := by rw [List.length_take] at hj; omega
          rw [List.getElem?_take_of_lt hjk] at e2
          exact e2
        · rw [List.getElem?_append_right (by omega), List.getElem?_replicate] at e
          split at e <;> cases e)
      have n10 : ∀ b ∈ fp, H10 b = none := fun b hb => by
        obtain ⟨o, e, _⟩ := T.obj _ _ st7 b hb
        exact (pin' b hb o e).2
      have st10 : tn (i + 1) s10.heap := T.keep _ _ _ st7 fun b hb o e => (pin' b hb o e).1
      cases n with
      | zero => omega
      | succ n =>
        refine seg_at (seg_yield rfl rfl rfl ⟨H10, b, rfl, J10, hf, fun hb s'' z => ?_⟩)
        obtain ⟨m', hm, w'⟩ := ht hb
        refine seg_again rfl (ih m' hm n (i + 1) s'' s'' H10 (by omega) w' (inv_woken J10 z) (by rw [z.heap]; exact st10) n10)
end

section
variable {Xg : Cx} {pins : List (Addr × Obj)} {σg : L2.St} {A : Around} {Qe Qf : Hp → Prop} {a : Addr} {g : Nat} {R : Result → Shared → Prop}
theorem all_drain (hh : A.handled = none) (hd : A.depth < recursionLimit) (hgen : ∀ s : Shared, (∀ p ∈ pins, s.heap.get? p.1 = some p.2) → s.heap.IsGen a g)
    (hE : ∀ H s, Inv Xg pins σg H s → Qe H → R (.ok (.ret (.bool true))) s) (hF : ∀ H s, Inv Xg pins σg H s → Qf H → R (.ok (.ret (.bool false))) s) :
    ∀ (n : Nat) (s : Shared), s.heap.IsGen a g → s.heap.NoLimit → (∃ gs, s.gens[g]? = some gs ∧ gs.Goes (model Xg.prog Xg.w) A.in1.in1 (AR Xg pins σg Qe) (AY Xg pins σg false Qf) n (.send .none) (s.setGen g .running)) →
      codeAny (model Xg.prog Xg.w) A (.builtin "all.loop" ⟨[.ref a], []⟩) R s := by
  have pinned : ∀ {H : Hp} {s : Shared}, Inv Xg pins σg H s → s.heap.IsGen a g := fun {H s} I => hgen s fun p hp => (I.pin p (List.mem_append_right _ hp)).1
  have weakR : ∀ {gs : GenState} {B : Around} {n : Nat} {r : Resume} {s : Shared}, gs.Goes (model Xg.prog Xg.w) B (AR Xg pins σg Qe) (AY Xg pins σg false Qf) n r s →
      gs.Goes (model Xg.prog Xg.w) B (fun n s₀ r s1 => ((r = .ok (.ret .none) ∨ r = .ok .next) ∧ ∃ H, Inv Xg pins σg H s1 ∧ Qe H) ∨ ∃ e, r = .error e ∧ False) (AY Xg pins σg false Qf) n r s := fun {gs B n r s} h => h
  intro n
  induction n with
  | zero =>
    intro s hg hl ⟨gs, hgs, hgo⟩
    refine codeAny_builtin F.entry_all_loop ?_
    rw [Around.under_plainId F.plain_all_loop _]
    show wpAny _ A.in1 (pyNext (.ref a) >>= _) _ _ s
    refine wpAny_bind (next_genG (A := A.in1) hh hl hd hg hgs (weakR hgo) (fun v s₁ gs' hbare hv => ?_) (fun s₁ hp h' hk => ?_) fun e s₁ he => he.elim)
    · obtain ⟨H, b, rfl, I, q1, q2⟩ := hv
      have b0 : b = false := by
        cases b with
        | false => rfl
        | true => exact (q2 rfl s₁ ⟨rfl, rfl, I.bare⟩).elim
      subst b0
      refine wpAny_bind (wpAny_holding (wpAny_truthy_bool ?_))
      refine wpAny_bind (wpAny_letGo ?_)
      simp only [Bool.false_eq_true, if_false]
      refine wpAny_bind (wpAny_rule (wpAny_pure ?_))
      exact hF H _ (inv_woken I ⟨rfl, rfl, allBare_setGen I.bare hbare⟩) (q1 rfl)
    · obtain ⟨H, I, q⟩ := hp
      refine wpAny_bind (wpAny_rule (wpAny_pure ?_))
      have J : Inv Xg pins σg H { s₁ with heap := h' } := I.kept (t' := s₁.toks) hk
      exact hE H _ (inv_woken J ⟨rfl, rfl, allBare_setGen (s := s₁) I.bare rfl⟩) q
  | succ n ih =>
    intro s hg hl ⟨gs, hgs, hgo⟩
    have hgl : g < s.gens.size := (Array.getElem?_eq_some_iff.mp hgs).1
    refine codeAny_builtin F.entry_all_loop ?_
    rw [Around.under_plainId F.plain_all_loop _]
    show wpAny _ A.in1 (pyNext (.ref a) >>= _) _ _ s
    refine wpAny_bind (wpAny_gsz (n := g + 1) hgl (next_genG (A := A.in1) hh hl hd hg hgs (weakR hgo) (fun v s₁ gs' hbare hv => ?_) (fun s₁ hp h' hk => ?_) fun e s₁ he => he.elim))
    · intro hsz
      have hsz1 : g < s₁.gens.size := by
        have q : (s₁.setGen g gs').gens.size = s₁.gens.size := setGen_size _ _ _
        have hsz' : g + 1 ≤ (s₁.setGen g gs').gens.size := hsz
        omega
      obtain ⟨H, b, rfl, I, q1, q2⟩ := hv
      refine wpAny_bind (wpAny_holding (wpAny_truthy_bool ?_))
      refine wpAny_bind (wpAny_letGo ?_)
      have hb1 : AllBare (s₁.setGen g gs').gens := allBare_setGen I.bare hbare
      cases b with
      | false =>
        simp only [Bool.false_eq_true, if_false]
        refine wpAny_bind (wpAny_rule (wpAny_pure ?_))
        exact hF H _ (inv_woken I ⟨rfl, rfl, hb1⟩) (q1 rfl)
      | true =>
        simp only [if_true]
        have J : Inv Xg pins σg H (s₁.setGen g gs') := inv_woken I ⟨rfl, rfl, hb1⟩
        refine wpAny_pure ⟨plainId_quiet F.plain_all_loop _, ih (s₁.setGen g gs') (pinned J) J.nolimit ⟨gs', setGen_at hsz1, ?_⟩⟩
        have z := q2 rfl ((s₁.setGen g gs').setGen g .running) ⟨rfl, rfl, allBare_setGen hb1 rfl⟩
        exact z
    · intro hsz
      obtain ⟨H, I, q⟩ := hp
      refine wpAny_bind (wpAny_rule (wpAny_pure ?_))
      have J : Inv Xg pins σg H { s₁ with heap := h' } := I.kept (t' := s₁.toks) hk
      exact hE H _ (inv_woken J ⟨rfl, rfl, allBare_setGen (s := s₁) I.bare rfl⟩) q
theorem any_drain (hh : A.handled = none) (hd : A.depth < recursionLimit) (hgen : ∀ s : Shared, (∀ p ∈ pins, s.heap.get? p.1 = some p.2) → s.heap.IsGen a g)
    (hE : ∀ H s, Inv Xg pins σg H s → Qe H → R (.ok (.ret (.bool false))) s) (hF : ∀ H s, Inv Xg pins σg H s → Qf H → R (.ok (.ret (.bool true))) s) :
    ∀ (n : Nat) (s : Shared), s.heap.IsGen a g → s.heap.NoLimit → (∃ gs, s.gens[g]? = some gs ∧ gs.Goes (model Xg.prog Xg.w) A.in1.in1 (AR Xg pins σg Qe) (AY Xg pins σg true Qf) n (.send .none) (s.setGen g .running)) →
      codeAny (model Xg.prog Xg.w) A (.builtin "any.loop" ⟨[.ref a], []⟩) R s := by
  have pinned : ∀ {H : Hp} {s : Shared}, Inv Xg pins σg H s → s.heap.IsGen a g := fun {H s} I => hgen s fun p hp => (I.pin p (List.mem_append_right _ hp)).1
  have weakR : ∀ {gs : GenState} {B : Around} {n : Nat} {r : Resume} {s : Shared}, gs.Goes (model Xg.prog Xg.w) B (AR Xg pins σg Qe) (AY Xg pins σg true Qf) n r s →
      gs.Goes (model Xg.prog Xg.w) B (fun n s₀ r s1 => ((r = .ok (.ret .none) ∨ r = .ok .next) ∧ ∃ H, Inv Xg pins σg H s1 ∧ Qe H) ∨ ∃ e, r = .error e ∧ False) (AY Xg pins σg true Qf) n r s := fun {gs B n r s} h => h
  intro n
  induction n with
  | zero =>
    intro s hg hl ⟨gs, hgs, hgo⟩
    refine codeAny_builtin F.entry_any_loop ?_
    rw [Around.under_plainId F.plain_any_loop _]
    show wpAny _ A.in1 (pyNext (.ref a) >>= _) _ _ s
    refine wpAny_bind (next_genG (A := A.in1) hh hl hd hg hgs (weakR hgo) (fun v s₁ gs' hbare hv => ?_) (fun s₁ hp h' hk => ?_) fun e s₁ he => he.elim)
    · obtain ⟨H, b, rfl, I, q1, q2⟩ := hv
      have b0 : b = true := by
        cases b with
        | true => rfl
        | false => exact (q2 rfl s₁ ⟨rfl, rfl, I.bare⟩).elim
      subst b0
      refine wpAny_bind (wpAny_holding (wpAny_truthy_bool ?_))
      refine wpAny_bind (wpAny_letGo ?_)
      simp only [if_true]
      refine wpAny_bind (wpAny_rule (wpAny_pure ?_))
      exact hF H _ (inv_woken I ⟨rfl, rfl, allBare_setGen I.bare hbare⟩) (q1 rfl)
    · obtain ⟨H, I, q⟩ := hp
      refine wpAny_bind (wpAny_rule (wpAny_pure ?_))
      have J : Inv Xg pins σg H { s₁ with heap := h' } := I.kept (t' := s₁.toks) hk
      exact hE H _ (inv_woken J ⟨rfl, rfl, allBare_setGen (s := s₁) I.bare rfl⟩) q
  | succ n ih =>
    intro s hg hl ⟨gs, hgs, hgo⟩
    have hgl : g < s.gens.size := (Array.getElem?_eq_some_iff.mp hgs).1
    refine codeAny_builtin F.entry_any_loop ?_
    rw [Around.under_plainId F.plain_any_loop _]
    show wpAny _ A.in1 (pyNext (.ref a) >>= _) _ _ s
    refine wpAny_bind (wpAny_gsz (n := g + 1) hgl (next_genG (A := A.in1) hh hl hd hg hgs (weakR hgo) (fun v s₁ gs' hbare hv => ?_) (fun s₁ hp h' hk => ?_) fun e s₁ he => he.elim))
    · intro hsz
      have hsz1 : g < s₁.gens.size := by
        have q : (s₁.setGen g gs').gens.size = s₁.gens.size := setGen_size _ _ _
        have hsz' : g + 1 ≤ (s₁.setGen g gs').gens.size := hsz
        omega
      obtain ⟨H, b, rfl, I, q1, q2⟩ := hv
      refine wpAny_bind (wpAny_holding (wpAny_truthy_bool ?_))
      refine wpAny_bind (wpAny_letGo ?_)
      have hb1 : AllBare (s₁.setGen g gs').gens := allBare_setGen I.bare hbare
      cases b with
      | true =>
        simp only [if_true]
        refine wpAny_bind (wpAny_rule (wpAny_pure ?_))
        exact hF H _ (inv_woken I ⟨rfl, rfl, hb1⟩) (q1 rfl)
      | false =>
        simp only [Bool.false_eq_true, if_false]
        have J : Inv Xg pins σg H (s₁.setGen g gs') := inv_woken I ⟨rfl, rfl, hb1⟩
        refine wpAny_pure ⟨plainId_quiet F.plain_any_loop _, ih (s₁.setGen g gs') (pinned J) J.nolimit ⟨gs', setGen_at hsz1, ?_⟩⟩
        have z := q2 rfl ((s₁.setGen g gs').setGen g .running) ⟨rfl, rfl, allBare_setGen hb1 rfl⟩
        exact z
    · intro hsz
      obtain ⟨H, I, q⟩ := hp
      refine wpAny_bind (wpAny_rule (wpAny_pure ?_))
      have J : Inv Xg pins σg H { s₁ with heap := h' } := I.kept (t' := s₁.toks) hk
      exact hE H _ (inv_woken J ⟨rfl, rfl, allBare_setGen (s := s₁) I.bare rfl⟩) q
end

section
variable {Xg : Cx} {pins : List (Addr × Obj)} {σg : L2.St} {A0 : Around} {elt tg iter : Expr} {scope : Scope} {pos : Pos} {it : Addr} {R : GenEnd} {Y : Protocol} {n : Nat} {s₀ s : Shared}
theorem seg_allStart (loop : Seg (model Xg.prog Xg.w) A0 R Y n s₀ (.compLoop (.GeneratorExp elt [⟨tg, iter, [], 0⟩] scope pos) 0 (.ref it) .none Xg.env) ((model Xg.prog Xg.w).den (.compLoop (.GeneratorExp elt [⟨tg, iter, [], 0⟩] scope pos) 0 (.ref it) .none Xg.env)) [] s)
    (self : ∀ (A : Around) (Q : Value → Shared → Prop) (E : Value → Shared → Prop), Q (.ref it) s → wpAny (model Xg.prog Xg.w) A (pyIter (.ref it)) Q E s) :
    Seg (model Xg.prog Xg.w) A0 R Y n s₀ (.compStart (.GeneratorExp elt [⟨tg, iter, [], 0⟩] scope pos) 0 (.ref it) .none Xg.env) ((model Xg.prog Xg.w).den (.compStart (.GeneratorExp elt [⟨tg, iter, [], 0⟩] scope pos) 0 (.ref it) .none Xg.env)) [] s := by
  show Seg _ A0 _ _ _ s₀ _ ((compStart (.GeneratorExp elt [⟨tg, iter, [], 0⟩] scope pos) 0 (.ref it) .none Xg.env).onRaise (leaving Xg.env)) [] s
  unfold compStart
  rw [Sem.onRaise_eq_wrap]
  show Seg _ A0 _ _ _ s₀ _ ((ask >>= _).wrap _ _ _ _) [] s
  refine seg_bind_wrap (wpAny_askSetting ?_)
  split
  · exact seg_again rfl loop
  · first
      | exact seg_bind_wrap (wpAny_rule (seg_bind_wrap (wpAny_standAt (seg_bind_wrap (self _ _ _ (seg_again rfl loop))))))
      | (refine seg_bind_wrap (wpAny_rule ?_); show Seg _ A0 _ _ _ s₀ _ ((standAt iter.pos >>= _).wrap _ _ _ _) [] s; exact seg_bind_wrap (wpAny_standAt (seg_bind_wrap (self _ _ _ (seg_again rfl loop)))))
end
/-- all(elt for tg in iter), any(..): its reading -/
def tQG (P : Addr) (wi : TI) (g : TG) (te : TE) (n : Nat) (stopOn : Bool) : TE := fun σ H Q => wi σ H fun J H1 => GxR.TabG H1 P ∧ ∀ H2, GxR.Tabbed P H1 H2 →
  ∃ W : Nat → Nat → Hp → Prop, (∃ m, W 0 m H2) ∧ Turns J g te (σ ++ List.replicate n none) σ.length stopOn (fun H => Q (.bl (!stopOn)) H) (fun H => Q (.bl stopOn) H) W
section
variable {X : Cx} {pins : List (Addr × Obj)} {σ : L2.St} {H : Hp} {s : Shared}
/-- the generator stands ready at a -/
def ReadyG (X : Cx) (pins : List (Addr × Obj)) (σ : L2.St) (stopOn : Bool) (Q : VK) (a : Addr) (s5 : Shared) : Prop :=
  ∃ (Xg : Cx) (pg : List (Addr × Obj)) (σg : L2.St) (n g : Nat) (c : Code), Xg.prog = X.prog ∧ Xg.w = X.w ∧ s5.heap.IsGen a g ∧ s5.heap.NoLimit ∧ s5.gens[g]? = some (.fresh c) ∧ (∀ s : Shared, (∀ p ∈ pg, s.heap.get? p.1 = some p.2) → s.heap.IsGen a g) ∧
    (∀ s' : Shared, Woken s5 s' → Seg (model X.prog X.w) X.A.in1.in1 (AR Xg pg σg (fun H => Q (.bl (!stopOn)) H)) (AY Xg pg σg stopOn (fun H => Q (.bl stopOn) H)) n s' c ((model X.prog X.w).den c) [] s') ∧
    AllBare s5.gens ∧ ∀ H s', Inv Xg pg σg H s' → Inv X pins σ H s'
theorem gen_ready {c P : Addr} {elt tg iter : Expr} {gpos : Pos} {scope : Scope} {own : List Str} {wi : TI} {g : TG} {te : TE} {stopOn : Bool} {Q : VK} {Q' : Value → Shared → Prop}
    (hd : X.A.handled = none) (hdep : X.A.depth < recursionLimit) (hc : X.calm = true) (TB : GxR.TabB X.base X.mg c P) (hcode : X.env.code = .ref c) (S : GenOk X.N X.env.scope scope own) (hi : PI X tg iter wi)
    (hgt : ∀ (s : Shared) (H : Hp) (C : Addr) (code : Value) (fp : List Addr), PG (gcx X s H scope C code builtinsNs own fp) tg g) (hel : ∀ (s : Shared) (H : Hp) (C : Addr) (code : Value) (fp : List Addr), PE (gcx X s H scope C code builtinsNs own fp) elt te)
    (hs : ∀ v, genFold iter X.env v = pure v) (I : Inv X pins σ H s) (h : tQG P wi g te own.length stopOn σ H Q)
    (hQ : ∀ a s5, ReadyG X pins σ stopOn Q a s5 → Q' (.ref a) s5) :
    wpAny (model X.prog X.w) X.A (eval (.GeneratorExp elt [⟨tg, iter, [], 0⟩] scope gpos) X.env) Q' X.xe s := by
  have hfree : ∀ y ∈ scope.names, y.2 = .free → ∃ c, X.env.cells.lookup y.1 = some c := fun y hy e => by
    rcases S.free y hy e with k | k
    · exact I.ok.has _ (.inl k)
    · exact I.ok.has _ (.inr k)
  refine wpAny_GeneratorExp_make S.co (closure_ok hfree) S.cell S.dot S.kind hdep ?_ hs
  refine thn (hi.run pins s σ H _ I h) fun xv s1 hx => thn hx fun itv s2 h2 => ?_
  obtain ⟨it, fp, tn, J, H2, e, I2, T, st2, f2, ⟨ps, hP, ht⟩, q⟩ := h2
  subst e
  have hPs : s2.heap.get? P = some { cls := .none, data := .fields ps } := I2.hok P _ hP
  have cd : PySem.W.CodeHd s2.heap c P := TB.code.keeps I2.bk
  refine ⟨I2.nolimit, ?_⟩
  have nP : ∀ b ∈ fp, b ≠ P := fun b hb z => by
    have q := (f2 b hb).1
    rw [z, hP] at q
    cases q
  have cont : ∀ (code : Value) (h3 : Heap) (tk : Nat) (more : Array Value), Heap.ExtBut P s2.heap h3 → h3.get? P = some { cls := .none, data := .fields (ps ++ more) } → TriplesOk (ps ++ more).toList →
      wpAny (model X.prog X.w) X.A (builtinsFor X.env.globals X.env.builtins) (fun bi s₄ => ∀ h', h'.Ns s₄.heap.objs.size (fun y => if y = ".0" then some (.ref it) else none) → Heap.SameBut s₄.heap.objs.size (s₄.heap.push { cls := .type "frame", data := .dict #[] }) h' →
          Q' (.ref h'.objs.size) { s₄ with
            gens := s₄.gens.push (.fresh (.compStart (.GeneratorExp elt [⟨tg, iter, [], 0⟩] scope gpos) 0 (.ref it) .none (genEnv scope (cloFrom X.env.cells scope.names []) s₄.heap.objs.size code bi X.env))),
            toks := s₄.toks + 1 + 1 + 1,
            heap := h'.push { cls := .type "generator", data := .fields #[.int s₄.gens.size 0, .str "<genexpr>" (s₄.toks + 1), .str (X.env.qual ++ "<genexpr>") (s₄.toks + 1 + 1)] } }) X.xe { s2 with heap := h3, toks := tk } := by
    intro code h3 tk more hx hP3 ht3
    obtain ⟨bm, ob, e1, e2, e3, e4, e5, e6, e7, e8⟩ := TB.bm
    have keep3 : ∀ b u, b ≠ P → s2.heap.get? b = some u → h3.get? b = some u := fun b u hb e => hx b u hb e
    refine wpAny_builtinsFor (m := X.mg) (by rw [I2.ok.glob]; exact ((I2.mod.glob.keeps I2.bk)).extBut hx TB.gP) e1 e2 (keep3 _ _ e4 (I2.bk _ _ e5)) e6 e7 e8 ?_
    have I3 : Inv X pins σ (upd H2 P (.tbl (ps ++ more))) { s2 with heap := h3, toks := tk } := GxR.inv_tab (g' := s2.gens) (d' := s2.drawn) I2 hP keep3 hP3 I2.bare
    have hT : GxR.Tabbed P H2 (upd H2 P (.tbl (ps ++ more))) := ⟨⟨_, upd_same, ht3⟩, fun b hb => upd_ne hb⟩
    obtain ⟨W, ⟨m0, w0⟩, turn⟩ := q _ hT
    intro h' hn' hs'
    have hsz : h'.objs.size = h3.objs.size + 1 := by rw [hs'.1, Heap.size_push]
    have keep' : ∀ b o, h3.get? b = some o → h'.get? b = some o := fun b o e => hs'.extBut b o (Nat.ne_of_lt (Heap.lt_size e)) (Heap.get?_push_of_some _ e)
    have f3 : ∀ b ∈ fp, FpOk X pins (upd H2 P (.tbl (ps ++ more))) b ∧ b < h3.objs.size := fun b hb => by
      obtain ⟨o, e, _⟩ := T.obj _ _ st2 b hb
      refine ⟨⟨?_, (f2 b hb).2⟩, Heap.lt_size (keep3 b o (nP b hb) e)⟩
      rw [upd_ne (nP b hb)]
      exact (f2 b hb).1
    have st3 : tn 0 h3 := T.keep _ _ _ st2 fun b hb o e => keep3 b o (nP b hb) e
    refine hQ _ _ ?_
    have Ig := gen_start (own := own) (code := code) (it := it) (h' := h') (tk := tk + 1 + 1 + 1) (go := { cls := .type "generator", data := .fields #[.int s2.gens.size 0, .str "<genexpr>" (tk + 1), .str (X.env.qual ++ "<genexpr>") (tk + 1 + 1)] })
      (gs := s2.gens.push (.fresh (.compStart (.GeneratorExp elt [⟨tg, iter, [], 0⟩] scope gpos) 0 (.ref it) .none (genEnv scope (cloFrom X.env.cells scope.names []) h3.objs.size code builtinsNs X.env)))) hc I3 S f3 hn' keep' hsz (AllBare.push I2.bare rfl) (fun v z => by cases z) rfl
    have isG : ∀ h : Heap, h.get? h'.objs.size = some ({ cls := .type "generator", data := .fields #[.int s2.gens.size 0, .str "<genexpr>" (tk + 1), .str (X.env.qual ++ "<genexpr>") (tk + 1 + 1)] } : Obj) → h.IsGen h'.objs.size s2.gens.size := fun h e => ⟨_, _, _, e, rfl, rfl, rfl⟩
    have stg : tn 0 (h'.push ({ cls := .type "generator", data := .fields #[.int s2.gens.size 0, .str "<genexpr>" (tk + 1), .str (X.env.qual ++ "<genexpr>") (tk + 1 + 1)] } : Obj)) := T.keep _ _ _ st3 fun b _ o e => Heap.get?_push_of_some _ (keep' b o e)
    refine ⟨gcx X { s2 with heap := h3, toks := tk } (upd H2 P (.tbl (ps ++ more))) scope h3.objs.size code builtinsNs own fp, [(h'.objs.size, ({ cls := .type "generator", data := .fields #[.int s2.gens.size 0, .str "<genexpr>" (tk + 1), .str (X.env.qual ++ "<genexpr>") (tk + 1 + 1)] } : Obj))], σ ++ List.replicate own.length none, m0 + 1, s2.gens.size, _, rfl, rfl, isG _ (Heap.get?_push_size _ rfl), Ig.nolimit, Array.getElem?_push_size .., fun s hp => isG _ (hp (h'.objs.size, ({ cls := .type "generator", data := .fields #[.int s2.gens.size 0, .str "<genexpr>" (tk + 1), .str (X.env.qual ++ "<genexpr>") (tk + 1 + 1)] } : Obj)) (List.mem_singleton.mpr rfl)), fun s' z => ?_, Ig.bare, fun H s' I' => ?_⟩
    · have Ig' := inv_woken Ig z
      have st' : tn 0 s'.heap := by rw [z.heap]; exact stg
      refine seg_allStart (Xg := gcx X _ _ scope h3.objs.size code builtinsNs own fp) (seg_all (Xg := gcx X _ _ scope h3.objs.size code builtinsNs own fp) (tn := tn) (fp := fp) (k := σ.length) (W := W) over_gen rfl rfl rfl rfl S.co T (hgt _ _ _ _ _) (hel _ _ _ _ _) (fun b hb p hp => ?_) ?_ turn m0 (m0 + 1) 0 s' s' _ (Nat.lt_succ_self _) w0 Ig' st' fun b hb => (f3 b hb).1.1) (fun A Q E hq => T.self A 0 s' Q E st' hq)
      · rw [List.mem_singleton.mp hp]
        show h'.objs.size ≠ b
        have q := (f3 b hb).2
        rw [hsz]
        exact Nat.ne_of_gt (Nat.lt_succ_of_lt q)
      · rw [List.take_left', List.length_append, List.length_replicate, Nat.add_sub_cancel_left]
        rfl
    · exact I3.call' (ch := fp) I'.os I'.base I'.hok I'.bare fun b hb => ⟨(f3 b hb).1.2.2.2.1, (f3 b hb).1.2.1, (f3 b hb).1.2.2.2.2.1, (f3 b hb).1.2.2.2.2.2⟩
  cases hf : codeAmong gpos ps.toList with
  | none =>
    refine wpAny_genexprCodeX hcode (cd.code hPs ht) (cd.tab hPs) hf fun c' h' tk hx hge hlt hco' _ htab' _ => ?_
    obtain ⟨o1, vs, f1, tf, fl, tg', inF, tx, tt, op, _, _, _, _, _, _, _, _, _, htr, _⟩ := hco'
    exact cont _ h' tk _ hx htab'.2 htr
  | some cv =>
    refine wpAny_genexprCode_hit hcode (cd.code hPs ht) hf ?_
    exact cont cv s2.heap s2.toks #[] (Heap.ExtBut.refl _ _) (by simpa using hPs) (by simpa using ht)

theorem pe_allG {c P : Addr} {elt tg iter : Expr} {p pos gpos : Pos} {scope : Scope} {own : List Str} {wi : TI} {g : TG} {te : TE} {k : Nat} (hr : Room k X.A) (hg : Gl X "all") (hm : X.mg "all" = none) (hb : bootBuiltins "all" = some (.builtin "all"))
    (hc : X.calm = true) (TB : GxR.TabB X.base X.mg c P) (hcode : X.env.code = .ref c) (S : GenOk X.N X.env.scope scope own) (hi : PI X tg iter wi)
    (hgt : ∀ (s : Shared) (H : Hp) (C : Addr) (code : Value) (fp : List Addr), PG (gcx X s H scope C code builtinsNs own fp) tg g) (hel : ∀ (s : Shared) (H : Hp) (C : Addr) (code : Value) (fp : List Addr), PE (gcx X s H scope C code builtinsNs own fp) elt te)
    (hs : ∀ v, genFold iter X.env v = pure v := by intro _; rfl)
    (he : starEach [.GeneratorExp elt [⟨tg, iter, [], 0⟩] scope gpos] X.env = (false, eval (.GeneratorExp elt [⟨tg, iter, [], 0⟩] scope gpos) X.env) :: starEach [] X.env := by rfl) :
    PE X (.Call (.Name "all" p) [.GeneratorExp elt [⟨tg, iter, [], 0⟩] scope gpos] [] pos) (tQG P wi g te own.length false) := by
  refine ⟨fun pins s σ H Q I h => ?_⟩
  have hdep : X.A.depth < recursionLimit := by have := hr.dp; omega
  refine wpAny_Call_Name_kw (ld_blt I hg hm hb ?_)
  refine PyProof.Rows.callWith_builtin1 ?_ he (by rfl)
  rw [he]
  show wpAny _ _ (spliced ((false, eval (.GeneratorExp elt [⟨tg, iter, [], 0⟩] scope gpos) X.env) :: backTo pos (starEach [] X.env))) _ _ s
  refine Calls.spliced_cons (gen_ready hr.hd hdep hc TB hcode S hi hgt hel hs I h fun a s5 hR => ?_)
  refine Calls.spliced_nil ?_
  obtain ⟨Xg, pg, σg, n, gi, c5, eP, eW, isG, lim, hgs, hgen, hseg, hbare, back⟩ := hR
  refine call_function_tree F.kind_all F.plain_all F.entry_all (F.args_all1 _) ?_
  unfold Builtin.«all»
  refine wpAny_bind (m := oneArg "all" _) (wpAny_pure ?_)
  refine wpAny_bind (wpAny_pyIter_gen isG ?_)
  rw [← eP, ← eW]
  refine wpAny_pure ⟨plainId_quiet F.plain_all_loop _, all_drain (Xg := Xg) (pins := pg) (σg := σg) (Qe := fun H => Q (.bl true) H) (Qf := fun H => Q (.bl false) H) hr.hd hdep hgen (fun H s' I' q => ?_) (fun H s' I' q => ?_) n s5 isG lim ⟨_, hgs, rfl, ?_⟩⟩
  · exact ⟨.bl true, H, back H s' I', rfl, q⟩
  · exact ⟨.bl false, H, back H s' I', rfl, q⟩
  · rw [eP, eW]
    exact hseg _ ⟨rfl, rfl, allBare_setGen hbare rfl⟩
theorem pe_anyG {c P : Addr} {elt tg iter : Expr} {p pos gpos : Pos} {scope : Scope} {own : List Str} {wi : TI} {g : TG} {te : TE} {k : Nat} (hr : Room k X.A) (hg : Gl X "any") (hm : X.mg "any" = none)
    (hc : X.calm = true) (TB : GxR.TabB X.base X.mg c P) (hcode : X.env.code = .ref c) (S : GenOk X.N X.env.scope scope own) (hi : PI X tg iter wi)
    (hgt : ∀ (s : Shared) (H : Hp) (C : Addr) (code : Value) (fp : List Addr), PG (gcx X s H scope C code builtinsNs own fp) tg g) (hel : ∀ (s : Shared) (H : Hp) (C : Addr) (code : Value) (fp : List Addr), PE (gcx X s H scope C code builtinsNs own fp) elt te)
    (hs : ∀ v, genFold iter X.env v = pure v := by intro _; rfl)
    (he : starEach [.GeneratorExp elt [⟨tg, iter, [], 0⟩] scope gpos] X.env = (false, eval (.GeneratorExp elt [⟨tg, iter, [], 0⟩] scope gpos) X.env) :: starEach [] X.env := by rfl) :
    PE X (.Call (.Name "any" p) [.GeneratorExp elt [⟨tg, iter, [], 0⟩] scope gpos] [] pos) (tQG P wi g te own.length true) := by
  refine ⟨fun pins s σ H Q I h => ?_⟩
  have hdep : X.A.depth < recursionLimit := by have := hr.dp; omega
  refine wpAny_Call_Name_kw (ld_blt I hg hm boot_any ?_)
  refine PyProof.Rows.callWith_builtin1 ?_ he (by rfl)
  rw [he]
  show wpAny _ _ (spliced ((false, eval (.GeneratorExp elt [⟨tg, iter, [], 0⟩] scope gpos) X.env) :: backTo pos (starEach [] X.env))) _ _ s
  refine Calls.spliced_cons (gen_ready hr.hd hdep hc TB hcode S hi hgt hel hs I h fun a s5 hR => ?_)
  refine Calls.spliced_nil ?_
  obtain ⟨Xg, pg, σg, n, gi, c5, eP, eW, isG, lim, hgs, hgen, hseg, hbare, back⟩ := hR
  refine call_function_tree F.kind_any F.plain_any F.entry_any (F.args_any1 _) ?_
  unfold Builtin.«any»
  refine wpAny_bind (m := oneArg "any" _) (wpAny_pure ?_)
  refine wpAny_bind (wpAny_pyIter_gen isG ?_)
  rw [← eP, ← eW]
  refine wpAny_pure ⟨plainId_quiet F.plain_any_loop _, any_drain (Xg := Xg) (pins := pg) (σg := σg) (Qe := fun H => Q (.bl false) H) (Qf := fun H => Q (.bl true) H) hr.hd hdep hgen (fun H s' I' q => ?_) (fun H s' I' q => ?_) n s5 isG lim ⟨_, hgs, rfl, ?_⟩⟩
  · exact ⟨.bl false, H, back H s' I', rfl, q⟩
  · exact ⟨.bl true, H, back H s' I', rfl, q⟩
  · rw [eP, eW]
    exact hseg _ ⟨rfl, rfl, allBare_setGen hbare rfl⟩
end
end Kb
set_option Elab.async false
set_option linter.all false
set_option maxRecDepth 100000
set_option maxHeartbeats 2000000
namespace Kb
open PySem PySem.Spec PyProof.Rows L2
/-! ### zip of two of lists, tuples, texts, in any mix -/
inductive Sc where
  | lst (a : Addr) (xs : List V) | tup (a : Addr) (xs : List V) | txt (z : Str)
def Sc.val : Sc → Nat → Option V
  | .lst _ xs, i => xs[i]?
  | .tup _ xs, i => xs[i]?
  | .txt z, i => (z.cps[i]?).map fun c => .str ⟨#[c]⟩
def Sc.len : Sc → Nat
  | .lst _ xs => xs.length
  | .tup _ xs => xs.length
  | .txt z => z.cps.size
def Sc.ok (K : PySem.W.Frag) (H : Hp) : Sc → Prop
  | .lst a xs => SqL K H a xs
  | .tup a xs => SqT K H a xs
  | .txt _ => True
def Sc.v : Sc → V
  | .lst a _ => .ref a
  | .tup a _ => .ref a
  | .txt z => .str z
def Sc.at : Sc → Addr → Nat → Heap → Prop
  | .lst a _, it, i, h => h.IsListIter it a i
  | .tup a _, it, i, h => h.IsTupleIter it a i
  | .txt z, it, i, h => ∃ t, h.IsStrIter it (strIterType z) z t i
def Sc.below : Sc → Nat → Prop
  | .lst a _, N => a < N
  | .tup a _, N => a < N
  | .txt _, _ => True
theorem Sc.at_obj {S : Sc} {it : Addr} {i : Nat} {h : Heap} (x : S.at it i h) : ∃ o, h.get? it = some o ∧ ∀ v, o.data ≠ .cell v := by
  cases S with
  | lst a xs => obtain ⟨o, e, _, d⟩ := x; exact ⟨o, e, fun v z => by rw [d] at z; cases z⟩
  | tup a xs => obtain ⟨o, e, _, d⟩ := x; exact ⟨o, e, fun v z => by rw [d] at z; cases z⟩
  | txt z => obtain ⟨t, o, e, _, d⟩ := x; exact ⟨o, e, fun v z => by rw [d] at z; cases z⟩
theorem Sc.at_keep {S : Sc} {it : Addr} {i : Nat} {h h' : Heap} (x : S.at it i h) (k : ∀ o, h.get? it = some o → h'.get? it = some o) : S.at it i h' := by
  cases S with
  | lst a xs => obtain ⟨o, e, r⟩ := x; exact ⟨o, k o e, r⟩
  | tup a xs => obtain ⟨o, e, r⟩ := x; exact ⟨o, k o e, r⟩
  | txt z => obtain ⟨t, o, e, r⟩ := x; exact ⟨t, o, k o e, r⟩
section
variable {X : Cx} {pins : List (Addr × Obj)} {σ : L2.St} {H : Hp} {s : Shared}
theorem Sc.draws {S : Sc} {it : Addr} {i N : Nat} {A : Around} (I : Inv X pins σ H s) (q : S.ok X.K H) (hb : S.below N) (hN : N ≤ it) (hh : A.handled = none) (x : S.at it i s.heap) :
    ∃ (fp : List Addr) (P : Nat → Value → Prop) (St : Nat → Heap → Prop), Draws X.prog X.w A it (it :: fp) S.len P St ∧ St i s.heap ∧ (∀ b ∈ fp, b < N) ∧ (∀ j u, P j u → ∃ v, S.val j = some v ∧ RelV v u) ∧ ∀ j h, St j h → S.at it j h := by
  cases S with
  | lst a xs =>
    obtain ⟨its, rv, p, _⟩ := I.list q
    have ne : a ≠ it := Nat.ne_of_lt (Nat.lt_of_lt_of_le hb hN)
    have el : its.toArray.size = xs.length := by rw [List.size_toArray]; exact rv.length.symm
    refine ⟨[a], fun i v => its.toArray[i]? = some v, fun i h => h.IsListIter it a i ∧ h.IsList a its.toArray, (by show Draws _ _ _ _ _ xs.length _ _; rw [← el]; exact Draws.list hh it a ne its.toArray), ⟨x, p.isList⟩, fun b hb' => by rw [List.mem_singleton.mp hb']; exact hb, fun j u hu => ?_, fun j h z => z.1⟩
    have hu' : its[j]? = some u := by simpa using hu
    cases e : xs[j]? with
    | none => rw [rv.none_of e] at hu'; cases hu'
    | some v =>
      obtain ⟨u', e1, e2⟩ := rv.get e
      rw [e1] at hu'
      cases hu'
      exact ⟨v, e, e2⟩
  | tup a xs =>
    obtain ⟨its, rv, p, _⟩ := I.tuple q
    have ne : a ≠ it := Nat.ne_of_lt (Nat.lt_of_lt_of_le hb hN)
    have el : its.toArray.size = xs.length := by rw [List.size_toArray]; exact rv.length.symm
    have pt : s.heap.IsTuple a its.toArray := by
      obtain ⟨o, e, c, n, d⟩ := p
      exact ⟨o, e, c, n, d⟩
    refine ⟨[a], fun i v => its.toArray[i]? = some v, fun i h => h.IsTupleIter it a i ∧ h.IsTuple a its.toArray, (by show Draws _ _ _ _ _ xs.length _ _; rw [← el]; exact Draws.tuple hh it a ne its.toArray), ⟨x, pt⟩, fun b hb' => by rw [List.mem_singleton.mp hb']; exact hb, fun j u hu => ?_, fun j h z => z.1⟩
    have hu' : its[j]? = some u := by simpa using hu
    cases e : xs[j]? with
    | none => rw [rv.none_of e] at hu'; cases hu'
    | some v =>
      obtain ⟨u', e1, e2⟩ := rv.get e
      rw [e1] at hu'
      cases hu'
      exact ⟨v, e, e2⟩
  | txt z =>
    obtain ⟨t, x⟩ := x
    refine ⟨[], fun i v => ∃ c u, z.cps[i]? = some c ∧ v = .str ⟨#[c]⟩ u, fun i h => h.IsStrIter it (strIterType z) z t i, Draws.text hh it z t, x, fun b hb' => (by cases hb'), fun j u hu => ?_, fun j h y => ⟨t, y⟩⟩
    obtain ⟨c, t', e, rfl⟩ := hu
    exact ⟨.str ⟨#[c]⟩, by show (z.cps[j]?).map _ = _; rw [e]; rfl, t', rfl⟩
end
def Itzz (K : PySem.W.Frag) (S1 S2 : Sc) : It where
  go i H := S1.ok K H ∧ S2.ok K H ∧ i < min S1.len S2.len
  yld i H v H' := ∃ T x y, v = .ref T ∧ H T = none ∧ H' = upd H T (.tup [x, y]) ∧ S1.val i = some x ∧ S2.val i = some y
  stop i H := S1.ok K H ∧ S2.ok K H ∧ i = min S1.len S2.len
theorem turn_zz {P : Program} {w : World} {K : PySem.W.Frag} {elts : List Expr} {kk : Nat} {tpos : Pos} {S1 S2 : Sc} {N : Nat} (b1 : S1.below N) (b2 : S2.below N) :
    Turn P w K (.Tuple elts kk tpos) (Itzz K S1 S2) [N + 4, N + 2, N + 3, N, N + 1] (N + 4) (fun i h => IsZip h (N + 4) (N + 2) (N + 3) .none ∧ IsTupOf2 h (N + 2) (.ref N) (.ref (N + 1)) ∧ (∃ a1 a2, IsTupOf2 h (N + 3) a1 a2) ∧ S1.at N i h ∧ S2.at (N + 1) i h) where
  mem := by simp
  obj := fun i h st c hc => by
    obtain ⟨hz, hTI, ⟨x, y, hTO⟩, h1, h2⟩ := st
    have e' : c = N + 4 ∨ c = N + 2 ∨ c = N + 3 ∨ c = N ∨ c = N + 1 := by simpa using hc
    rcases e' with q | q | q | q | q
    · rw [q]; exact ⟨_, hz, fun v q => nomatch q⟩
    · rw [q]; exact ⟨_, hTI, fun v q => nomatch q⟩
    · rw [q]; exact ⟨_, hTO, fun v q => nomatch q⟩
    · rw [q]; exact Sc.at_obj h1
    · rw [q]; exact Sc.at_obj h2
  keep := fun i h h' st k => by
    obtain ⟨hz, hTI, ⟨x, y, hTO⟩, h1, h2⟩ := st
    exact ⟨k (N + 4) (by simp) _ hz, k (N + 2) (by simp) _ hTI, ⟨x, y, k (N + 3) (by simp) _ hTO⟩, Sc.at_keep h1 fun o q => k N (by simp) o q, Sc.at_keep h2 fun o q => k (N + 1) (by simp) o q⟩
  item := by
    intro X hP hw hK hc i pins s σ H E I hf st hg
    subst hP hw hK
    obtain ⟨hz, hTI, hTO, h1, h2⟩ := st
    obtain ⟨o1, o2, hi⟩ := hg
    have hh : X.A.in1.handled = none := I.ok.hd hc
    obtain ⟨f1, P1, St1, D1, s1, l1, v1, t1⟩ := Sc.draws (A := X.A.in1) I o1 b1 (Nat.le_refl N) hh h1
    obtain ⟨f2, P2, St2, D2, s2, l2, v2, t2⟩ := Sc.draws (A := X.A.in1) I o2 b2 (Nat.le_succ N) hh h2
    have G := GoesN.zip2 (elts := elts) (x1 := kk) (pos := tpos) (zip_sep2 l1 l2) D1 D2
    have hlt : ∀ c ∈ [N + 4, N + 2, N + 3, N, N + 1], c < s.heap.objs.size := fun c hcm => by
      have e' : c = N + 4 ∨ c = N + 2 ∨ c = N + 3 ∨ c = N ∨ c = N + 1 := by simpa using hcm
      obtain ⟨oa, ea, _⟩ := Sc.at_obj h1
      obtain ⟨ob, eb, _⟩ := Sc.at_obj h2
      obtain ⟨x0, y0, hTO'⟩ := hTO
      rcases e' with q | q | q | q | q
      · rw [q]; exact Heap.lt_size hz
      · rw [q]; exact Heap.lt_size hTI
      · rw [q]; exact Heap.lt_size hTO'
      · rw [q]; exact Heap.lt_size ea
      · rw [q]; exact Heap.lt_size eb
    refine wpAny_mono (G.goes i s (fun v s2 => ∃ x H', Inv X pins σ H' s2 ∧ RelV x v ∧ (Itzz X.K S1 S2).yld i H x H' ∧ (IsZip s2.heap (N + 4) (N + 2) (N + 3) .none ∧ IsTupOf2 s2.heap (N + 2) (.ref N) (.ref (N + 1)) ∧ (∃ a1 a2, IsTupOf2 s2.heap (N + 3) a1 a2) ∧ S1.at N (i + 1) s2.heap ∧ S2.at (N + 1) (i + 1) s2.heap) ∧ ∀ b ∈ [N + 4, N + 2, N + 3, N, N + 1], H' b = none) E hi ⟨hz, hTI, hTO, s1, s2⟩ fun v h' tk hY hst hk _ => ?_) (fun r s1 q => q) fun _ _ q => q
    obtain ⟨T, u1, u2, rfl, hnew, p1, p2, oT, eT, cT, nT, dT⟩ := hY
    obtain ⟨z', TI', TO', s1', s2'⟩ := hst
    obtain ⟨x, ex, rx⟩ := v1 i u1 p1
    obtain ⟨y, ey, ry⟩ := v2 i u2 p2
    have new : ObjOk X.prog X.w (upd H T (.tup [x, y])) h' T (.tup [x, y]) := ⟨by show 2 ≤ sizeLine; decide, [u1, u2], .cons rx (.cons ry .nil), ⟨oT, eT, cT, nT, dT⟩⟩
    have I1 : Inv X pins σ (upd H T (.tup [x, y])) { s with heap := h', toks := tk } :=
      I.turnedNew (t' := tk) (ch := [N + 4, N + 2, N + 3, N, N + 1]) (fun c o hb q => hk c o (fun q' => hb (by
        have e' : c = N + 4 ∨ c = N + 3 ∨ c = N ∨ c = N + 1 := by simpa using q'
        rcases e' with z | z | z | z <;> simp [z])) q) hf hnew new
    exact ⟨.ref T, _, I1, rfl, ⟨T, x, y, rfl, I.hok.fresh hnew, rfl, ex, ey⟩, ⟨z', TI', TO', t1 _ _ s1', t2 _ _ s2'⟩, fun c hcm => by
      rw [upd_ne (Nat.ne_of_lt (Nat.lt_of_lt_of_le (hlt c hcm) hnew))]
      exact (hf c hcm).1⟩
  done := by
    intro X hP hw hK hc i pins s σ H E I hf st hg
    subst hP hw hK
    obtain ⟨hz, hTI, hTO, h1, h2⟩ := st
    obtain ⟨o1, o2, rfl⟩ := hg
    have hh : X.A.in1.handled = none := I.ok.hd hc
    obtain ⟨f1, P1, St1, D1, s1, l1, v1, t1⟩ := Sc.draws (A := X.A.in1) I o1 b1 (Nat.le_refl N) hh h1
    obtain ⟨f2, P2, St2, D2, s2, l2, v2, t2⟩ := Sc.draws (A := X.A.in1) I o2 b2 (Nat.le_succ N) hh h2
    have G := GoesN.zip2 (elts := elts) (x1 := kk) (pos := tpos) (zip_sep2 l1 l2) D1 D2
    refine G.stops s (fun s' => Inv X pins σ H s') E ⟨hz, hTI, hTO, s1, s2⟩ fun h' tk hk _ => ?_
    exact I.turnedL (t' := tk) (ch := [N + 4, N + 2, N + 3, N, N + 1]) (fun c o hb q => hk c o (fun q' => hb (by
        have e' : c = N + 4 ∨ c = N + 3 ∨ c = N ∨ c = N + 1 := by simpa using q'
        rcases e' with z | z | z | z <;> simp [z])) q) hf
  self := fun _ _ _ _ _ st h => wpAny_pyIter_zip st.1 h
def iZipU (K : PySem.W.Frag) (ta : TA) : TI := fun σ H R => ta σ H fun vs H1 => ∃ S1 S2 : Sc, vs = [S1.v, S2.v] ∧ S1.ok K H1 ∧ S2.ok K H1 ∧ R (Itzz K S1 S2) H1

section
variable {X : Cx} {pins : List (Addr × Obj)} {σ : L2.St} {H : Hp} {s : Shared}
theorem Sc.begins {S : Sc} {u : Value} (I : Inv X pins σ H s) (q : S.ok X.K H) (r : RelV S.v u) : ∃ (o : Obj) (Hq : Heap → Prop), Begins u o Hq ∧ Hq s.heap ∧ S.below s.heap.objs.size ∧ ∀ (it : Addr) (h : Heap), h.get? it = some o → S.at it 0 h := by
  cases S with
  | lst a xs =>
    obtain ⟨its, rv, p, _⟩ := I.list q
    cases (show u = Value.ref a from r)
    exact ⟨_, _, begins_list a its.toArray, p.isList, p.lt, fun it h e => ⟨_, e, rfl, rfl⟩⟩
  | tup a xs =>
    obtain ⟨its, rv, p, _⟩ := I.tuple q
    cases (show u = Value.ref a from r)
    have pt : s.heap.IsTuple a its.toArray := by
      obtain ⟨o, e, c, n, d⟩ := id p
      exact ⟨o, e, c, n, d⟩
    exact ⟨_, _, begins_tuple a its.toArray, pt, p.lt, fun it h e => ⟨_, e, rfl, rfl⟩⟩
  | txt z =>
    obtain ⟨t, rfl⟩ := (show ∃ t, u = Value.str z t from r)
    exact ⟨_, _, begins_text z t, trivial, trivial, fun it h e => ⟨t, _, e, rfl, rfl⟩⟩
end
theorem pi_zipU {X : Cx} {e e2 : Expr} {ta : TA} {p pos tpos : Pos} {elts : List Expr} {kk : Nat} (hg : Gl X "zip") (hm : X.mg "zip" = none) (ha : PA X [e, e2] ta)
    (hs : starEach [e, e2] X.env = (false, eval e X.env) :: starEach [e2] X.env := by rfl) (hpl : (backTo pos (starEach [e2] X.env)).any (·.1) = false := by rfl) :
    PI X (.Tuple elts kk tpos) (.Call (.Name "zip" p) [e, e2] [] pos) (iZipU X.K ta) := by
  refine ⟨fun pins s σ H R I h => ?_⟩
  refine Call_ (ld_blt I hg hm PyProof.Rows.boot_zip (PyProof.Rows.callWith_type1 (thn (ha.run pos pins s σ H _ I h) fun us s1 ⟨vs, H1, I1, r1, q1⟩ => ?_) hs hpl))
  obtain ⟨S1, S2, ex, hq1, hq2, q⟩ := q1
  subst ex
  obtain ⟨u1, u2, rfl, ru1, ru2⟩ := vals2 r1
  obtain ⟨o1, Hq1, B1, c1, l1, a1⟩ := Sc.begins I1 hq1 ru1
  obtain ⟨o2, Hq2, B2, c2, l2, a2⟩ := Sc.begins I1 hq2 ru2
  refine zip_begins2 B1 B2 c1 c2 fun h' hz hTI hTO h1 h2 hsz hk => wpAny_pyIter_zip hz ?_
  have I2 : Inv X pins σ H1 { s1 with heap := h' } := I1.kept (t' := s1.toks) hk
  refine ⟨s1.heap.objs.size + 4, [s1.heap.objs.size + 4, s1.heap.objs.size + 2, s1.heap.objs.size + 3, s1.heap.objs.size, s1.heap.objs.size + 1], _, _, H1, rfl, I2, turn_zz l1 l2, ⟨hz, hTI, ⟨_, _, hTO⟩, a1 _ _ h1, a2 _ _ h2⟩, fun c hcm => ?_, q⟩
  have e' : c = s1.heap.objs.size + 4 ∨ c = s1.heap.objs.size + 2 ∨ c = s1.heap.objs.size + 3 ∨ c = s1.heap.objs.size ∨ c = s1.heap.objs.size + 1 := by simpa using hcm
  have hle : s1.heap.objs.size ≤ c := by
    rcases e' with z | z | z | z | z
    · rw [z]; exact Nat.le_add_right _ _
    · rw [z]; exact Nat.le_add_right _ _
    · rw [z]; exact Nat.le_add_right _ _
    · rw [z]; exact Nat.le_refl _
    · rw [z]; exact Nat.le_add_right _ _
  exact I1.fpOk hle (I1.hok.fresh hle)
end Kb
set_option Elab.async false
set_option linter.all false
set_option maxRecDepth 100000
set_option maxHeartbeats 2000000
namespace Kb
open PySem PySem.Spec PyProof.Rows L2
/-! ### dicts of the written part, keys ints or texts: in, d[k], d.items() -/
def entOk (w : World) (e : DictEntry) (p : Key × V) : Prop := keyIs p.1 e.key = true ∧ e.hash = keyH w p.1 ∧ RelV p.2 e.val
structure KD (w : World) (K : PySem.W.Frag) (d : Addr) (kvs : List (Key × V)) : Prop where
  at_ : ∃ (es : Array DictEntry) (n : Nat), K.lookup d = some ⟨.type "dict", none, .dict es n, #[]⟩ ∧ Paired (entOk w) es.toList kvs
  low : (d == sysModules) = false
  nd : (kvs.map (·.1)).Nodup
theorem kd_vals {P : Program} {w : World} : ∀ {es : List DictEntry} {kvs : List (Key × V)}, Paired (entOk w) es kvs → ∃ vs : List (Key × Value), KV kvs vs ∧ Pairs (mixKind P w) es vs ∧ vs.map (·.1) = kvs.map (·.1) ∧ ∀ e ∈ es, ∃ k, (mixKind P w).is k e.key = true ∧ e.hash = (mixKind P w).hash k
  | _, _, .nil => ⟨[], .nil, .nil, rfl, fun _ h => nomatch h⟩
  | _, _, .cons (a := e) (b := p) h r => by
    obtain ⟨vs, h1, h2, h3, h4⟩ := kd_vals (P := P) r
    obtain ⟨a1, a2, a3⟩ := h
    refine ⟨(p.1, e.val) :: vs, .cons ⟨rfl, a3⟩ h1, ?_, by rw [List.map_cons, List.map_cons, h3], fun x hx => ?_⟩
    · obtain ⟨hh, hk, hv⟩ := e
      exact .cons a1 rfl h2
    · rcases List.mem_cons.mp hx with z | z
      · rw [z]
        exact ⟨p.1, a1, a2⟩
      · exact h4 x z
theorem KD.dictAt {P : Program} {w : World} {K : PySem.W.Frag} {d : Addr} {kvs : List (Key × V)} {h : Heap} (D : KD w K d kvs) (X : K.In h) : ∃ (ep : Nat) (vs : List (Key × Value)), KV kvs vs ∧ h.DictAt (mixKind P w) d vs ep := by
  obtain ⟨es, n, hl, hp⟩ := D.at_
  obtain ⟨vs, h1, h2, h3, h4⟩ := kd_vals (P := P) hp
  exact ⟨n, vs, h1, _, es, X _ _ hl, ⟨rfl, rfl, rfl⟩, rfl, fun e he => h4 e (Array.mem_toList_iff.mpr he), h2, by rw [h3]; exact D.nd⟩
def rInK (w : World) (K : PySem.W.Frag) (neg : Bool) : R2 := fun x y H Q => ∃ d kvs k, x = kV k ∧ y = .ref d ∧ KD w K d kvs ∧ Q (.bl (if neg then !(valV kvs k).isSome else (valV kvs k).isSome)) H
def rGetK (w : World) (K : PySem.W.Frag) : R2 := fun x y H Q => ∃ d kvs k v, x = .ref d ∧ y = kV k ∧ KD w K d kvs ∧ valV kvs k = some v ∧ Q v H
section
variable {X : Cx}
theorem op_inK : OpR X (compareOp .In) (rInK X.w X.K false) := by
  intro pins s σ H x y v u Q I rx ry h
  obtain ⟨d, kvs, k, rfl, rfl, D, q⟩ := h
  cases (show u = Value.ref d from ry)
  obtain ⟨ep, vs, rel, dd⟩ := D.dictAt (P := X.prog) I.kIn
  refine wpAny_in_of (kV_is rx) D.low dd.dictOf.mapOf ?_
  rw [← (rel.val k).isSome_eq]
  exact ⟨.bl _, H, I.tok _, rfl, q⟩
theorem op_notInK : OpR X (compareOp .NotIn) (rInK X.w X.K true) := by
  intro pins s σ H x y v u Q I rx ry h
  obtain ⟨d, kvs, k, rfl, rfl, D, q⟩ := h
  cases (show u = Value.ref d from ry)
  obtain ⟨ep, vs, rel, dd⟩ := D.dictAt (P := X.prog) I.kIn
  refine wpAny_notIn_of (kV_is rx) D.low dd.dictOf.mapOf ?_
  rw [← (rel.val k).isSome_eq]
  exact ⟨.bl _, H, I.tok _, rfl, q⟩
theorem ix_kd : IxR X (rGetK X.w X.K) := by
  intro value slice pins s σ H x y v u Q I rx ry h hs
  obtain ⟨d, kvs, k, r, rfl, rfl, D, l, q⟩ := h
  cases (show v = Value.ref d from rx)
  obtain ⟨ep, vs, rel, dd⟩ := D.dictAt (P := X.prog) I.kIn
  obtain ⟨w', hw, rw'⟩ := RelO.some_of (v := r) (o := valueAt vs k) (by rw [← l]; exact rel.val k)
  exact tail_any dd.dictOf.typeIs slot_dict_getitem.lookup (wpAny_getItem_of (kV_is ry) dd.dictOf.mapOf hw ⟨r, H, I.tok _, rw', q⟩) hs
end
def ItKD (kvs : List (Key × V)) : It :=
  ⟨fun i H => i < kvs.length, fun i H x H' => ∃ T k v, kvs[i]? = some (k, v) ∧ x = .ref T ∧ H T = none ∧ H' = upd H T (.tup [kV k, v]), fun i H => kvs.length ≤ i⟩
theorem turn_kd {P : Program} {w : World} {K : PySem.W.Frag} {d : Addr} {kvs : List (Key × V)} {elts : List Expr} {kk : Nat} {tpos : Pos} {ep : Nat} (D : KD w K d kvs) (hep : ∀ h vs ep', K.In h → h.DictAt (mixKind P w) d vs ep' → ep' = ep) (it : Addr) :
    Turn P w K (.Tuple elts kk tpos) (ItKD kvs) [it] it (fun i h => ∃ ok ov, IsItemIter h it d i kvs.length ep ok ov) where
  mem := by simp
  obj := fun i h st b hb => by
    have e : b = it := by simpa using hb
    subst e
    obtain ⟨ok, ov, e⟩ := st
    exact ⟨_, e, fun v z => nomatch z⟩
  keep := fun i h h' st k => let ⟨ok, ov, e⟩ := st; ⟨ok, ov, k it (by simp) _ e⟩
  item := by
    intro X hP hw hK hc i pins s σ H E I hf st hi
    subst hP hw hK
    have hi : i < kvs.length := hi
    obtain ⟨ep', vs, kv, hm⟩ := D.dictAt (P := X.prog) I.kIn
    obtain rfl := hep _ _ _ I.kIn hm
    obtain ⟨⟨k, v⟩, hkv⟩ : ∃ p, kvs[i]? = some p := ⟨kvs[i], List.getElem?_eq_getElem hi⟩
    obtain ⟨u, hu, ru⟩ := kv_get kv hkv
    have hl : kvs.length = vs.length := Paired.length kv
    obtain ⟨ok, ov, he⟩ := st
    rw [hl] at he
    have hlt : it < s.heap.objs.size := Heap.lt_size he
    refine wpAny_pyNext_items_item he hm hu fun key h' hkey ho hT hz hk => ?_
    refine ⟨_, rfl, wpAny_letOwnedTupleGo_items (s := { s with heap := h' }) ho fun h'' he' sb => ?_⟩
    have hT2 : h''.get? s.heap.objs.size = some { cls := .type "tuple", data := .seq #[key, u] } := (sb.2 _ (Nat.ne_of_gt hlt)).trans hT
    have new : ObjOk X.prog X.w (upd H s.heap.objs.size (.tup [kV k, v])) h'' s.heap.objs.size (.tup [kV k, v]) :=
      ⟨by show 2 ≤ sizeLine; decide, [key, u], .cons (relV_key (show keyIs k key = true from hkey)) (.cons ru .nil), ⟨_, hT2, rfl, _, rfl⟩⟩
    have I1 : Inv X pins σ (upd H s.heap.objs.size (.tup [kV k, v])) { s with heap := h'' } :=
      I.turnedNew (t' := s.toks) (ch := [it]) (fun b ob hb e => (sb.2 b (by simpa using hb)).trans (hk b ob (by simpa using hb) e)) hf (Nat.le_refl _) new
    refine ⟨.ref s.heap.objs.size, _, I1, rfl, ⟨_, k, v, hkv, rfl, I.hok.fresh (Nat.le_refl _), rfl⟩, ⟨key, u, ?_⟩, fun b hb => ?_⟩
    · rw [hl]; exact he'
    · have e : b = it := by simpa using hb
      rw [e, upd_ne (Nat.ne_of_lt hlt)]
      exact (hf it (by simp)).1
  done := by
    intro X hP hw hK hc i pins s σ H E I hf st hi
    subst hP hw hK
    have hi : kvs.length ≤ i := hi
    obtain ⟨f0, f1, f2, f3, f4, f5⟩ := hf it (by simp)
    obtain ⟨ep', vs, kv, hm⟩ := D.dictAt (P := X.prog) I.kIn
    obtain rfl := hep _ _ _ I.kIn hm
    have hl : kvs.length = vs.length := Paired.length kv
    obtain ⟨ok, ov, he⟩ := st
    rw [hl] at he
    exact wpAny_pyNext_items_end (I.ok.hd hc) he hm (List.getElem?_eq_none (by omega)) fun h' eb => ⟨rfl, I.turned (t' := s.toks) (fun b ob hb e => eb b ob hb e) f0 f1 f3 f4 f5⟩
  self := fun A i s Q E st h => let ⟨_, _, e⟩ := st; PySem.W.kcp_self e h
def iItemsK (w : World) (K : PySem.W.Frag) (td : TE) : TI := fun σ H R => td σ H fun x H1 => ∃ d kvs, x = .ref d ∧ KD w K d kvs ∧ R (ItKD kvs) H1
theorem KD.ep {P : Program} {w : World} {K : PySem.W.Frag} {d : Addr} {kvs : List (Key × V)} {h h' : Heap} {vs vs' : List (Key × Value)} {ep ep' : Nat} (D : KD w K d kvs) (X : K.In h) (X' : K.In h') (a : h.DictAt (mixKind P w) d vs ep) (b : h'.DictAt (mixKind P w) d vs' ep') : ep' = ep := by
  obtain ⟨es, n, hl, _⟩ := D.at_
  obtain ⟨o, es1, h1, _, d1, _⟩ := a
  obtain ⟨o', es2, h2, _, d2, _⟩ := b
  rw [X _ _ hl] at h1
  rw [X' _ _ hl] at h2
  cases h1
  cases h2
  cases d1
  cases d2
  rfl
section
variable {X : Cx} {e : Expr} {td : TE} {apos cpos : Pos}
theorem pi_itemsK {elts : List Expr} {kk : Nat} {tpos : Pos} (he : PE X e td) (hbase : attributeBase e "items" X.env (eval e X.env) = eval e X.env := by rfl) (hline : (apos.endLine == cpos.line) = true := by rfl) :
    PI X (.Tuple elts kk tpos) (.Call (.Attribute e "items" apos) [] [] cpos) (iItemsK X.w X.K td) := by
  refine ⟨fun pins s σ H R I h => ?_⟩
  refine wpAny_Call_method (T := "dict") (id := "dict.items") hbase rfl hline F.plainAttrs_dict F.slot_dict_items F.type_dict_items (thn (he.run pins s σ H _ I h) fun u s1 ⟨x, H1, I1, rx, d, kvs, ex, D, q⟩ => ?_)
  subst ex
  obtain rfl : u = Value.ref d := rx
  obtain ⟨ep, vs, kv, hm⟩ := D.dictAt (P := X.prog) I1.kIn
  have hl : kvs.length = vs.length := Paired.length kv
  refine ⟨hm.dictOf.typeIs, hm.dictOf.mapOf.noDict, ?_⟩
  have I2 : Inv X pins σ H1 { s1 with heap := s1.heap.push { cls := .type "dict_items", data := .fields #[.ref d] } } := I1.kept (t' := s1.toks) fun b ob q => Heap.get?_push_of_some _ q
  have fin : wpAny (model X.prog X.w) X.A (pyIter (.ref s1.heap.objs.size)) (PIE X pins σ (.Tuple elts kk tpos) R) X.xe { s1 with heap := s1.heap.push { cls := .type "dict_items", data := .fields #[.ref d] } } := by
    refine wpAny_pyIter_items (d := d) (knd := mixKind X.prog X.w) ⟨_, Heap.get?_push_size _ rfl, rfl, rfl⟩ (hm.push _) (pi_one (tk := s1.toks) I2 _ (turn_kd D (fun h vs' ep' Xh a => D.ep I1.kIn Xh hm a) _) ⟨.none, .none, ?_⟩ q)
    rw [hl]
    exact Heap.get?_push_size _ rfl
  show wpAny _ _ (callWith cpos (.builtin "dict.items") [.ref d] [] []) _ X.xe s1
  exact method_meetsIn F.slot_dict_items F.entry_dict_items rfl (PySem.evalArgs_none ⟨rfl, hm.dictOf.typeIs, F.args_dict_items_1 _, _, meets_dict_items (mixKind X.prog X.w) d D.low, ⟨vs, hm.dictOf⟩, fin⟩)
end
end Kb
set_option Elab.async false
set_option linter.all false
set_option maxRecDepth 100000
set_option maxHeartbeats 2000000
namespace Kb
open PySem PySem.Spec PyProof.Rows L2
/-- an exception that was caught, held as a value -/
def ExV (cls : Value) (d : Option Addr) (a : Addr) : HO := .ext fun h => ∃ (oe : Obj) (vs : Array Value), h.get? a = some oe ∧ Zc cls d oe ∧ oe.data = .fields vs
theorem exV_ok {P : Program} {w : World} {H : Hp} {h : Heap} {a : Addr} {cls : Value} {d : Option Addr} {oe : Obj} {vs : Array Value} (e : h.get? a = some oe) (z : Zc cls d oe) (hd : oe.data = .fields vs) : ObjOk P w H h a (ExV cls d a) :=
  ⟨⟨oe, vs, e, z, hd⟩, ⟨oe, e⟩, fun _ _ ⟨o, v, q, r⟩ k => ⟨o, v, k o q, r⟩⟩
section
variable {X : Cx} {pins : List (Addr × Obj)} {σ : L2.St} {H : Hp} {s : Shared}
theorem track {a : Addr} {oe : Obj} {cls : Value} {d : Option Addr} {vs : Array Value} (I : Inv X ((a, oe) :: pins) σ H s) (n0 : X.s_0.heap.get? a = none) (hp : ∀ p ∈ X.pn ++ pins, p.1 ≠ a) (hz : Zc cls d oe) (hd : oe.data = .fields vs) :
    Inv X pins σ (upd H a (ExV cls d a)) s := by
  obtain ⟨ea, na, nL, nF, nc⟩ := I.pin (a, oe) (List.mem_append_right _ List.mem_cons_self)
  have ea : s.heap.get? a = some oe := ea
  have na : H a = none := na
  have ne0 : ∀ b o, X.s_0.heap.get? b = some o → b ≠ a := fun b o e z => by rw [z, n0] at e; cases e
  have neT : ∀ b u, H b = some u → b ≠ a := fun b u e z => by rw [z, na] at e; cases e
  refine ⟨I.ok, I.os, I.bare, ⟨I.base.keep, I.base.slot, fun b o e n hx => ?_, I.base.there, fun b xs e => ?_, fun b o u e => ?_, fun b ps e => ?_⟩, I.loc, I.cell, ?_, fun x c e => ?_, fun p hp' => ?_, fun b u e => ?_, I.len⟩
  · rw [upd_ne (ne0 b o e)]
    exact I.base.free b o e n hx
  · have q := I.base.tups b xs e
    rw [upd_ne (neT b _ q)]
    exact q
  · have q := I.base.frzs b o u e
    rw [upd_ne (neT b _ q)]
    exact q
  · obtain ⟨m, q⟩ := I.base.tbls b ps e
    exact ⟨m, by rw [upd_ne (neT b _ q)]; exact q⟩
  · rw [upd_ne (Ne.symm nL)]
    exact I.free
  · have hc : c ≠ a := fun z => by
      obtain ⟨v, o, ho, hv⟩ := I.cell x c e
      rw [z, ea] at ho
      cases ho
      exact nc v hv
    rw [upd_ne hc]
    exact I.freeC x c e
  · obtain ⟨h1, h2, h3, h4, h5⟩ := I.pin p (by
      rcases List.mem_append.mp hp' with z | z
      · exact List.mem_append_left _ z
      · exact List.mem_append_right _ (List.mem_cons_of_mem _ z))
    exact ⟨h1, by rw [upd_ne (hp p hp')]; exact h2, h3, h4, h5⟩
  · by_cases hb : b = a
    · rw [hb, upd_same] at e
      cases e
      rw [hb]
      exact exV_ok ea hz hd
    · rw [upd_ne hb] at e
      exact (I.hok b u e).stay (fun c v _ q => q) (fun c q => by rw [upd_ne (neT c _ q)]; exact q) fun c xs q => by rw [upd_ne (neT c _ q)]; exact q
end
/-- what 'except x as n' wishes of an exception of the body; behind the suite the exception stays known -/
def wKeep (K : PySem.W.Frag) (c : Value) (i : Nat) (ts : Addr → Value → Option Addr → TS) (Wout : WX) (D : Ends) : WX := fun cls d σ H =>
  ∃ b, PySem.W.exmOne K cls c = some b ∧ (b = true → ∀ a, H a = none → ts a cls d { nx := fun σ' H' => D.nx (σ'.set i none) (upd H' a (ExV cls d a)), rt := fun v H' => D.rt v (upd H' a (ExV cls d a)), bk := fun σ' H' => D.bk (σ'.set i none) (upd H' a (ExV cls d a)), ct := fun σ' H' => D.ct (σ'.set i none) (upd H' a (ExV cls d a)) } (σ.set i (some (.ref a))) H) ∧
    (b = false → Wout cls d σ H)
section
variable {X : Cx} {x n : Str} {c : Value} {i : Nat} {body suite : List Stmt} {b₀ : Stmt} {np pos pos' : Pos} {tb : WX → TS} {ts : Addr → Value → Option Addr → TS} {Wout : WX}
theorem ps_try_keep (hex : X.ex = []) (hs : X.stack = X.env :: X.outer) (hf : X.env.frame = some X.env.locals) (hN : X.N.Nodup) (hi : X.N[i]? = some n) (hln : X.env.kindOf n = some .local) (hc : Names X x c) (tk : Takes X Wout)
    (hb : ∀ (W : WX) (pn : List (Addr × Obj)) (xe : Value → Shared → Prop), Takes (X.tr pn xe) W → PassesOwn (model X.prog X.w) X.A X.env xe → PSs (X.tr pn xe) body (tb W))
    (hsu : ∀ (a : Addr) (oe : Obj) (cls : Value) (d : Option Addr) (pn : List (Addr × Obj)), Zc cls d oe → (∃ vs, oe.data = .fields vs) → PSs (X.suite a ((a, oe) :: pn)) (b₀ :: suite) (ts a cls d)) :
    PS X (.Try body [.ExceptHandler (some (.Name x np)) (some n) (b₀ :: suite) pos'] [] [] pos) (fun D σ H => tb (wKeep X.K c i ts Wout D) D σ H) := by
  refine ⟨fun pins s σ H D I h => ?_⟩
  have ok := I.ok
  have hfr : X.A.frames = some (X.env :: X.outer) := by rw [ok.frames, hs]
  have hloc : Loc X.env.scope n := .inl hln
  refine wpAny_Try_except ?_
  refine wpAny_mono ((hb (wKeep X.K c i ts Wout D) (X.pn ++ pins) (fun e s₁ => wpAny (model X.prog X.w) X.A (noteFrame e X.env) (fun _ s₂ => wpAny (model X.prog X.w) X.A (setFlight e none) (fun _ s₃ =>
    wpAny (model X.prog X.w) X.A (handleBy e X.env [.ExceptHandler (some (.Name x np)) (some n) (b₀ :: suite) pos']) (SP X pins D) X.xe s₃) X.xe s₂) X.xe s₁) (fun u s' xx => ?_) PassesOwn.looking).run [] s σ H D (I.toTry _) h) (fun f s1 hsp => ?_) (fun e s1 he => he)
  · -- the catch
    obtain ⟨a, B, sI, pins', σ', H', cls, d, rfl, J', nb, up, sky, na, os, ag, b, hb1, hyes, hno⟩ := xx
    have J : Inv X pins σ' H' sI := J'.ofTry ok
    have sky' : Sky B (X.env :: X.outer) a (Zc cls d) X.env.locals s'.heap := by rw [← hs]; exact sky
    show wpAny (model X.prog X.w) X.A (noteFrame (.ref a) X.env) _ _ _
    refine Sky.land Zc.steady hfr hf sky' fun h3 fl3 up3 => ?_
    have J3 : Inv X pins σ' H' { s' with heap := h3 } := J.landed nb fl3.1 (up.trans up3) os ag
    obtain ⟨oe3, vs3, he3, hz3, hd3⟩ := fl3.there
    have notFr : ∀ {h : Heap} {o : Obj} {vs : Array Value}, h.FunFrames B (X.env :: X.outer) → h.get? a = some o → o.data = .fields vs → a ∉ frs (X.env :: X.outer) := fun {h o vs} ff e dd hm => by
      obtain ⟨_, o', e', hnf⟩ := ff.mem hm
      rw [e] at e'; cases e'
      exact hnf _ dd
    have nfr := notFr fl3.2.2.1 he3 hd3
    have nL : a ≠ X.env.locals := fun z => nfr (List.mem_filterMap.mpr ⟨X.env, List.mem_cons_self, by rw [hf, z]⟩)
    have nF : a ∉ X.fs := fun hm => by
      obtain ⟨e, he, q⟩ := List.mem_filterMap.mp hm
      exact nfr (List.mem_filterMap.mpr ⟨e, List.mem_cons_of_mem _ he, q⟩)
    have nI : sI.heap.get? a = none := by
      cases q : sI.heap.get? a with
      | none => rfl
      | some o =>
        have z := nb a o q (by rw [hs]; exact nfr)
        rw [fl3.2.1] at z
        cases z
    have n0 : X.s_0.heap.get? a = none := by
      cases q : X.s_0.heap.get? a with
      | none => rfl
      | some o =>
        obtain ⟨o', z⟩ := J.base.there a o q (by rw [hex]; exact fun z => nomatch z)
        rw [nI] at z
        cases z
    have hpn : ∀ p ∈ X.pn ++ pins, p.1 ≠ a := fun p hp z => by
      have q := (J.pin p hp).1
      rw [z, nI] at q
      cases q
    have S3 := J3.suite he3 hd3 na nL nF
    refine wpAny_handleBy_cons (codeAny_handlers_test ?_) (by intro q; cases q)
    have LT : PySem.W.Looks (model X.prog X.w) h3 (typeOf (.ref a)) cls := fun A Q E s k q => wpAny_typeOf_ref (k _ _ he3) (by rw [hz3.1]; exact q)
    have LM := PySem.W.exm_one (M := model X.prog X.w) (J3.kIn) LT hb1
    have test : ∀ {Q : Value → Shared → Prop} {E : Value → Shared → Prop}, Q c { s' with heap := h3 } → wpAny (model X.prog X.w) (X.A.mark (some (.ref a))) (eval (.Name x np) X.env) Q E { s' with heap := h3 } := fun {Q E} q => by
      obtain ⟨hg, hdbg, hm | ⟨hm, hv, hnn⟩⟩ := hc
      · exact ld_glob (X := X.suite a ((a, oe3) :: (X.pn ++ pins))) S3 hg hm q hdbg
      · exact ld_blt (X := X.suite a ((a, oe3) :: (X.pn ++ pins))) S3 hg hm hv q hnn hdbg
    refine test (LM.here ?_)
    cases b with
    | true =>
      refine codeAny_handlers_suite_as ?_
      refine HandSPX.lands_againZ fl3 fun h4 fl4 up4 => ?_
      have J4 : Inv X pins σ' H' { s' with heap := h4 } := J.landed nb fl4.1 ((up.trans up3).trans up4) os ag
      obtain ⟨oe4, vs4, he4, hz4, hd4⟩ := fl4.there
      have S4 := J4.suite he4 hd4 na nL nF
      refine store_ok (X := X.suite a ((a, oe4) :: (X.pn ++ pins))) (v := .ref a) S4 hN hi hloc rfl (fun s5 S5 => ?_) (.inr hln)
      refine wpAny_mono ((hsu a oe4 cls d (X.pn ++ pins) hz4 ⟨_, hd4⟩).run [] s5 _ H' _ S5 (hyes rfl a na)) (fun f s6 hsp => ?_) (fun _ _ z => False.elim z)
      have end_ : ∀ {σ6 : L2.St} {H6 : Hp} {Q : Shared → Prop}, Inv (X.suite a ((a, oe4) :: (X.pn ++ pins))) [] σ6 H6 s6 → (∀ s7, Inv X pins (σ6.set i none) (upd H6 a (ExV cls d a)) s7 → Q s7) →
          wpAny (model X.prog X.w) X.A (do bindName X.env n .none; unbindBehindTheSuite X.env n pos') (fun _ s7 => Q s7) X.xe s6 := fun {σ6 H6 Q} S6 hq => by
        have T6 : Inv X ((a, oe4) :: pins) σ6 H6 s6 := (S6.unsuite ok).pins_of fun p hp => by
          rcases List.mem_cons.mp hp with z | z
          · rw [z]
            exact S6.pin (a, oe4) (List.mem_append_left _ List.mem_cons_self)
          · exact S6.pin p (List.mem_append_left _ (List.mem_cons_of_mem _ (List.mem_append_right _ z)))
        exact gone_ok T6 hN hi hln fun s7 J7 => hq s7 (track J7 n0 hpn hz4 hd4)
      cases f with
      | next =>
        obtain ⟨σ6, H6, S6, q6⟩ := hsp
        exact end_ S6 fun s7 J7 => ⟨_, _, J7, q6⟩
      | brk =>
        obtain ⟨σ6, H6, S6, q6⟩ := hsp
        exact end_ S6 fun s7 J7 => ⟨_, _, J7, q6⟩
      | cont =>
        obtain ⟨σ6, H6, S6, q6⟩ := hsp
        exact end_ S6 fun s7 J7 => ⟨_, _, J7, q6⟩
      | ret u =>
        obtain ⟨v6, σ6, H6, S6, r6, q6⟩ := hsp
        exact end_ S6 fun s7 J7 => ⟨_, _, _, J7, r6, q6⟩
    | false =>
      show wpAny _ X.A (handleBy (.ref a) X.env []) _ _ _
      refine wpAny_handleBy_nil ?_
      obtain ⟨k1, k2, k3, oe, vs, T, oT, ts', he, hz, hd, h1, hr⟩ := id fl3
      unfold PySem.passOn
      refine wpAny_bind (wpAny_field he hd h1 ?_)
      rw [if_neg (show ¬ ((Value.ref T == Value.none) = true) from by simp)]
      have fin : wpAny (model X.prog X.w) X.A (setFlight (.ref a) X.env.frame) (fun _ s4 => wpAny (model X.prog X.w) X.A (throw (.ref a) : Sem Flow) (SP X pins D) X.xe s4) X.xe { s' with heap := h3 } := by
        rw [hf]
        refine HandSPX.setFlight_upZ fl3 fun h4 hh4 up4 => wpAny_throw (tk _ _ ?_)
        exact ⟨a, B, sI, pins, σ', H', cls, d, rfl, J, nb, (up.trans up3).trans up4, .inr (.inr (by rw [hs]; exact hh4)), na, os, ag, hno rfl⟩
      first
        | exact wpAny_bind (wpAny_pure (wpAny_bind fin))
        | exact wpAny_bind fin
  · cases f with
    | next =>
      obtain ⟨σ', H', J', q⟩ := hsp
      exact wpAny_execs_nil ⟨σ', H', J'.ofTry ok, q⟩
    | brk =>
      obtain ⟨σ', H', J', q⟩ := hsp
      exact ⟨σ', H', J'.ofTry ok, q⟩
    | cont =>
      obtain ⟨σ', H', J', q⟩ := hsp
      exact ⟨σ', H', J'.ofTry ok, q⟩
    | ret u =>
      obtain ⟨v, σ', H', J', r, q⟩ := hsp
      exact ⟨v, σ', H', J'.ofTry ok, r, q⟩
end
/-- isinstance(e, c), e an exception held as a value -/
def rIsV (K : PySem.W.Frag) : List V → Hp → VK → Prop := fun xs H Q => ∃ (a D : Addr) (c : V) (cv : Value) (b : Bool), xs = [.ref a, c] ∧ H a = some (ExV (.ref D) none a) ∧ ExcC K D ∧ (∀ u, RelV c u → u = cv) ∧ PySem.W.kitOne K (.ref D) cv = some b ∧ Q (.bl b) H
theorem call_isV {X : Cx} : CallR X (.builtin "isinstance") (rIsV X.K) := by
  intro pins s σ H xs us Q I r h
  obtain ⟨a, D, c, cv, b, rfl, ha, C, hcv, e, q⟩ := h
  cases r with
  | cons rx rr =>
    cases rr with
    | cons rt rr =>
      cases rr
      cases rx
      have ec := hcv _ rt
      subst ec
      obtain ⟨⟨oe, vs, hget, hz, hv⟩, _, _⟩ := I.hok a _ ha
      have J : PySem.W.InstAt s.heap a oe D none := by
        obtain ⟨oc, od, oda, osl⟩ := oe
        obtain ⟨h1, h2⟩ := hz
        dsimp only at h1 h2 hv
        subst h1 h2 hv
        exact ⟨hget, rfl, rfl, trivial⟩
      exact PySem.W.kia_one (PySem.W.handS_kitx_exc C.hg C.hk C.hs C.hd C.ha C.hn C.ht C.hm) I.kIn J e (fun z => nomatch z) fun tk => ⟨.bl b, H, I.kept (t' := tk) fun _ _ z => z, rfl, q⟩
end Kb
set_option Elab.async false
set_option linter.all false
set_option maxRecDepth 100000
set_option maxHeartbeats 2000000
namespace Kb
open PySem PySem.Spec PyProof.Rows L2 LamX
/-- all but P's table stays -/
def ExtP (P : Addr) (H H' : Hp) : Prop := ∀ b o, b ≠ P → H b = some o → H' b = some o
section
variable {X : Cx} {pins : List (Addr × Obj)} {σ : L2.St} {H : Hp} {s : Shared}
theorem lam_make1 {c P : Addr} {params : Arguments} {body : Expr} {scope : Scope} {pos : Pos} {E : Value → Shared → Prop} {Q : Value → Shared → Prop} (I : Inv X pins σ H s) (TB : TabB X.base X.mg c P) (hcode : X.env.code = .ref c)
    (hT : TabS H P (X.env.qual ++ "<lambda>")) (hdef : defaultsOf params X.env = ([], [])) (hfree : ∀ y ∈ scope.names, y.2 = .free → ∃ c, X.env.cells.lookup y.1 = some c)
    (h : ∀ (f c' : Addr) (pm ctv : Value) (H1 : Hp) (s' : Shared), Inv X pins σ H1 s' → ExtP P H H1 → TabS H1 P (X.env.qual ++ "<lambda>") →
      s'.heap.get? f = some (PySem.W.kla_obj "<lambda>" (X.env.qual ++ "<lambda>") params body scope (cloFrom X.env.cells scope.names []) pm c' ctv) → H1 f = none → f ∉ frs X.stack → H1 c' = some (CodeO c' (X.env.qual ++ "<lambda>")) → Q (.ref f) s') :
    wpAny (model X.prog X.w) X.A (eval (.Lambda params body scope pos) X.env) Q E s := by
  obtain ⟨ps, hP, ht, ha⟩ := id hT
  refine PySem.W.kla_eval hdef ?_
  have bP : s.heap.BuiltinsAt X.mg P := TB.bm.keeps I.bk
  have hP' : s.heap.get? P = some { cls := .none, data := .fields ps } := I.hok P _ hP
  have nofr : ∀ f, s.heap.objs.size ≤ f → f ∉ frs X.stack := fun f hf z => by
    rcases List.mem_cons.mp (I.stkSub _ z) with e | e
    · have h1 := I.lt
      rw [← e] at h1
      exact Nat.lt_irrefl _ (Nat.lt_of_lt_of_le h1 hf)
    · exact I.nofs hf e
  cases hc : codeAmong pos ps.toList with
  | none =>
    refine PySem.W.kla_makeFunction (mg := X.mg) (c := c) (P := P) (ps := ps) (closure_ok hfree) I.ok.glob (I.mod.glob.keeps I.bk) hcode (TB.code.keeps I.bk) hP' ht hc TB.gP bP fun c' ctv h' tk hx hge hlt hrec htb => ?_
    obtain ⟨c2, oc, vs, t, e2, hoc, hd, hv⟩ := hrec
    cases e2
    have hsz : s.heap.objs.size ≤ h'.objs.size := Nat.le_trans hge (Nat.le_of_lt hlt)
    have nC : H c' = none := I.hok.fresh hge
    have I1 := inv_table (t' := tk) (more := #[rawInt pos.line, rawInt pos.col, .ref c']) (h' := h'.push (PySem.W.kla_obj "<lambda>" (X.env.qual ++ "<lambda>") params body scope (cloFrom X.env.cells scope.names []) ((X.mg "__name__").getD .none) c' ctv)) I hP
      (fun b o hb e => Heap.get?_push_of_some _ (hx b o hb e)) (Heap.get?_push_of_some _ htb) hge ⟨oc, vs, t, Heap.get?_push_of_some _ hoc, hd, hv⟩
    have hE : ExtP P H (upd (upd H P (.tbl (ps ++ #[rawInt pos.line, rawInt pos.col, .ref c']))) c' (CodeO c' (X.env.qual ++ "<lambda>"))) := fun b o n e => by
      rw [upd_ne (ne_of_none e nC), upd_ne n]
      exact e
    have eL : (ps ++ #[rawInt pos.line, rawInt pos.col, .ref c']).toList = ps.toList ++ [rawInt pos.line, rawInt pos.col, .ref c'] := by simp
    refine h h'.objs.size c' ((X.mg "__name__").getD .none) ctv _ _ I1 hE ?_ (Heap.get?_push_size _ rfl) ?_ (nofr _ hsz) upd_same
    · refine ⟨_, by rw [upd_ne (ne_of_none hP nC), upd_same], by rw [eL]; exact PySem.TriplesOk_snoc _ _ _ _ ht, fun p' cv hcv => ?_⟩
      rw [eL] at hcv
      rcases among_app _ ht hcv with z | z
      · obtain ⟨c0, e1, e2⟩ := ha p' cv z
        exact ⟨c0, e1, hE _ _ (fun z => by rw [z, hP] at e2; exact codeO_ne ps (Option.some.inj e2).symm) e2⟩
      · exact ⟨c', z, upd_same⟩
    · have n1 : h'.objs.size ≠ c' := Nat.ne_of_gt hlt
      have n2 : h'.objs.size ≠ P := Nat.ne_of_gt (Nat.lt_of_lt_of_le (Heap.lt_size hP') hsz)
      rw [upd_ne n1, upd_ne n2]
      exact I.hok.fresh hsz
  | some cv =>
    obtain ⟨c', e, hco⟩ := ha pos cv hc
    subst e
    refine PySem.W.kla_makeFunctionHit (mg := X.mg) (c := c) (P := P) (ps := ps) (closure_ok hfree) I.ok.glob (I.mod.glob.keeps I.bk) hcode (TB.code.keeps I.bk) hP' ht hc bP fun ctv h' tk hx hsz => ?_
    have I1 : Inv X pins σ H { s with heap := h'.push (PySem.W.kla_obj "<lambda>" (X.env.qual ++ "<lambda>") params body scope (cloFrom X.env.cells scope.names []) ((X.mg "__name__").getD .none) c' ctv), toks := tk } := I.kept fun b o e => Heap.get?_push_of_some _ (hx b o e)
    exact h h'.objs.size c' ((X.mg "__name__").getD .none) ctv H _ I1 (fun _ _ _ e => e) hT (Heap.get?_push_size _ rfl) (I.hok.fresh hsz) (nofr _ hsz) hco
end
def tLam1 (P : Addr) (q : Str) (TT : (XK → Hp → VK → Prop) → Hp → VK → Prop) (t : XK → TE) : TE := fun σ H Q => TabS H P q ∧ ∀ H1, ExtP P H H1 → TabS H1 P q → TT (fun E H' Q' => t E σ H' Q') H1 Q
section
variable {X : Cx}
theorem pe_lamcall1 {TT : (XK → Hp → VK → Prop) → Hp → VK → Prop} {x a : Str} {g c P : Addr} {k : Nat} {pg : Arguments} {bg : List Stmt} {sg : Scope} {dV kV doc pm cdv ct oc : Value} {an od : Option Addr} {osl : Array (Option Value)} {Ng : List Str}
    {params : Arguments} {body : Expr} {scope : Scope} {t : XK → TE} {p lpos pos : Pos} (hg : Gl X x) (hm : X.mg x = some (.ref g)) (hk : PySem.W.keepIn X.K (.ref g) = true)
    (lk : X.K.lookup g = some ⟨oc, od, .func (PySem.W.fnOf x x pg bg sg dV kV doc pm an cdv ct), osl⟩) (hcg : PySem.W.codeIn X.K cdv x = true) (hb : L2.Binds X.K (PySem.W.fnOf x x pg bg sg dV kV doc pm an cdv ct) [a] []) (Sg : FnScope Ng [a] sg) (hNg : Ng[0]? = some a) (hva : Vis sg a)
    (hG : GivesTo X Ng x sg g cdv bg a (X.env.qual ++ "<lambda>") TT)
    (TB : TabB X.base X.mg c P) (hcode : X.env.code = .ref c) (hr : Room (k + 2) X.A) (L : LamS X.env.scope scope) (hdef : defaultsOf params X.env = ([], []))
    (hbind : ∀ (q : Str) (cl : List (Str × Addr)) (pm cv ctv : Value), bindArgs (PySem.W.kla_fn "<lambda>" q params body scope cl pm cv ctv) ⟨[], []⟩ = pure [])
    (hbody : ∀ (A : Around) (outer : List Env) (s : Shared) (H : Hp) (E : XK) (f c' : Addr), Room k (A.deeper (lamEnv X scope s.heap.objs.size f c')) → PE (lamCx X A outer s H E scope f c') body (t E))
    (hdb : (x == ("__debug__" : Str)) = false := by decide) (hd : (a == ("__debug__" : Str)) = false := by decide) (hcd : (a == ("__classdict__" : Str)) = false := by decide) :
    PE X (.Call (.Name x p) [.Lambda params body scope lpos] [] pos) (tLam1 P (X.env.qual ++ "<lambda>") TT t) := by
  refine ⟨fun pins s σ H Q I h => ?_⟩
  obtain ⟨hT, h⟩ := h
  refine wpAny_Call_Name_kw (ld_glob I hg hm ?_ hdb)
  refine PySem.W.callWith_K (h₀ := X.base) I.ok.mod.kin hk ?_ (by rfl) (by rfl)
  show wpAny _ _ (spliced ((false, eval (.Lambda params body scope lpos) X.env) :: backTo pos (starEach [] X.env))) _ _ s
  refine Calls.spliced_cons (lam_make1 I TB hcode hT hdef (L.has I.ok) fun f c' pm' ctv H1 s' I1 eN T1 hf hfn hfr hco => ?_)
  refine Calls.spliced_nil ⟨I1.kIn, ?_⟩
  have rc : codeAny (model X.prog X.w) X.A (.call (.ref g) ⟨[.ref f], []⟩) (CR C8.CX0 X.stack X.prog X.w H1 s' Q C8.E0) s' := by
    refine run_ofS (N := Ng) (ps := [a]) (us := [.ref f]) (vs := [.ref f]) lk hcg Sg hr I1.env0 (hb s' [.ref f] I1.kIn rfl) (.cons rfl .nil) rfl fun hr' => ?_
    obtain ⟨t', ht', hq'⟩ := hG f c' s' H1 Q (fun E H' Q' => t E σ H' Q') (fun W pn xe E p1 p2 tk hW => pe_act (i := 0) I1 L hf hfn hfr (hbind _ _ _ _ _) tk hW hr' (fun A outer s H hr2 => hbody A outer s H E f c' hr2) hNg hva hd hcd) hco (h H1 eN T1)
    exact ⟨t', ht'.nox, hq'⟩
  refine wpAny_call (codeAny_mono rc fun r s2 hq => ?_)
  cases r with
  | error e => exact (show False from hq).elim
  | ok fl =>
    cases fl with
    | ret u => exact I1.after hq
    | next => exact False.elim hq
    | brk => exact False.elim hq
    | cont => exact False.elim hq
/-- _law_caught: what the act gives, or the error that it raises -/
def TCaught (K : PySem.W.Frag) (CL : Addr) : (XK → Hp → VK → Prop) → Hp → VK → Prop := fun tl H Q =>
  tl (fun cls d H' => PySem.W.exmOne K cls (.ref CL) = some true ∧ ∀ a, H' a = none → Q (.ref a) (upd H' a (ExV cls d a))) H Q
end
end Kb
set_option Elab.async false
set_option linter.all false
set_option maxRecDepth 100000
set_option maxHeartbeats 4000000
/-! enumerate of a tuple as of a list -/
namespace PySem
open Sem (wp)
open AutoSeq1 (wpAny_loadPart')
theorem meets_enumT (l : Addr) (items : Array Value) (n : Nat) (dct : Option Addr) (sl : Array (Option Value)) :
    Meets (Builtin.«enumerate.__new__» ⟨[.type "enumerate", .ref l], []⟩) (fun _ R s => s.heap.get? l = some ⟨.type "tuple", dct, .seq items n, sl⟩ ∧
      R (.ok (.ret (.ref (s.heap.push ⟨.type "tuple_iterator", none, .fields #[.ref l, .int 0 0], #[]⟩).objs.size)))
        { s with heap := (s.heap.push ⟨.type "tuple_iterator", none, .fields #[.ref l, .int 0 0], #[]⟩).push ⟨.type "enumerate", none, .fields #[.none, .bool false, .ref s.heap.objs.size, rawInt 0, .none, .none], #[]⟩ }) := by
  refine .of_wp fun prog w A R s h => ?_
  obtain ⟨hp, g, d, tk, os⟩ := s
  obtain ⟨hl, h⟩ := h
  have hsub := sub_enumerate
  have hT : Heap.IsTuple (Shared.heap ⟨hp, g, d, tk, os⟩) l items := ⟨_, hl, rfl, n, rfl⟩
  wp_walk using wpAny_loadPart' hl
  refine wpAny_stack_any fun _ => wpAny_pure ?_
  split
  · rename_i c _ _ _ _ _
    cases (c == Value.type "enumerate") <;> (wp_walk using wpAny_loadPart' hl, wpAny_pyIter_tuple hT; exact ⟨_, rfl, h⟩)
  · wp_walk using wpAny_loadPart' hl, wpAny_pyIter_tuple hT
    exact ⟨_, rfl, h⟩
theorem call_enumT {prog : Program} {w : World} {A : Around} {E : Value → Shared → Prop} {s : Shared} {l : Addr} {items : Array Value} {Q : Value → Shared → Prop} (hT : s.heap.IsTuple l items)
    (h : ∀ h', IsEnum h' (s.heap.objs.size + 1) s.heap.objs.size 0 .none → h'.IsTupleIter s.heap.objs.size l 0 → (∀ b o, s.heap.get? b = some o → h'.get? b = some o) → Q (.ref (s.heap.objs.size + 1)) { s with heap := h' }) :
    wpAny (model prog w) A (call (.type "enumerate") [.ref l]) Q E s := by
  obtain ⟨⟨c, dct, dt, sl⟩, hl, hc, n, hd⟩ := hT
  obtain rfl : c = .type "tuple" := hc
  obtain rfl : dt = .seq items n := hd
  refine callType_new F.called_enumerate (by decide) (F.typeCall_enumerate_1 _) (F.newCall_enumerate_1 _) (fun obj => F.args_object_init_2 obj _) F.entry_enumerate_new (meets_enumT l items n dct sl) ⟨hl, ?_⟩
  have hz : (s.heap.push ⟨.type "tuple_iterator", none, .fields #[.ref l, .int 0 0], #[]⟩).objs.size = s.heap.objs.size + 1 := Heap.size_push ..
  show _ ∧ _
  rw [hz]
  have he : IsEnum ((s.heap.push ⟨.type "tuple_iterator", none, .fields #[.ref l, .int 0 0], #[]⟩).push ⟨.type "enumerate", none, .fields #[.none, .bool false, .ref s.heap.objs.size, rawInt 0, .none, .none], #[]⟩) (s.heap.objs.size + 1) s.heap.objs.size 0 .none := by
    have z := Heap.get?_push_size (s.heap.push ⟨.type "tuple_iterator", none, .fields #[.ref l, .int 0 0], #[]⟩) (o := ⟨.type "enumerate", none, .fields #[.none, .bool false, .ref s.heap.objs.size, rawInt 0, .none, .none], #[]⟩) rfl
    rw [hz] at z
    exact z
  exact ⟨⟨_, he, rfl⟩, h _ he ⟨_, Heap.get?_push_of_some _ (Heap.get?_push_size _ rfl), rfl, rfl⟩ fun b o x => Heap.get?_push_of_some _ (Heap.get?_push_of_some _ x)⟩
end PySem
namespace Kb
open PySem PySem.Spec PyProof.Rows L2
def Itee (K : PySem.W.Frag) (S : Sc) : It where
  go i H := S.ok K H ∧ i < S.len
  yld i H v H' := ∃ T x, v = .ref T ∧ H T = none ∧ H' = upd H T (.tup [.int (i : Nat), x]) ∧ S.val i = some x
  stop i H := S.ok K H ∧ i = S.len
theorem turn_ee {P : Program} {w : World} {K : PySem.W.Frag} {elts : List Expr} {kk : Nat} {tpos : Pos} {S : Sc} {N : Nat} (b1 : S.below N) :
    Turn P w K (.Tuple elts kk tpos) (Itee K S) [N + 1, N] (N + 1) (fun i h => (∃ old, IsEnum h (N + 1) N ((i : Nat) : Int) old) ∧ S.at N i h) where
  mem := by simp
  obj := fun i h st b hb => by
    obtain ⟨⟨old, he⟩, h1⟩ := st
    rcases (by simpa using hb : b = N + 1 ∨ b = N) with z | z
    · rw [z]
      exact ⟨_, he, fun v q => nomatch q⟩
    · rw [z]
      exact Sc.at_obj h1
  keep := fun i h h' st k => by
    obtain ⟨⟨old, he⟩, h1⟩ := st
    exact ⟨⟨old, k (N + 1) (by simp) _ he⟩, Sc.at_keep h1 fun o q => k N (by simp) o q⟩
  item := by
    intro X hP hw hK hc i pins s σ H E I hf st hg
    subst hP hw hK
    obtain ⟨⟨old, he⟩, h1⟩ := st
    obtain ⟨o1, hi⟩ := hg
    have hh : X.A.in1.handled = none := I.ok.hd hc
    obtain ⟨f1, P1, St1, D1, s1, l1, v1, t1⟩ := Sc.draws (A := X.A.in1) I o1 b1 (Nat.le_refl N) hh h1
    have hel : N + 1 < s.heap.objs.size := Heap.lt_size he
    have nef : N + 1 ∉ N :: f1 := fun m => by
      rcases List.mem_cons.mp m with z | z
      · exact absurd z (Nat.succ_ne_self N)
      · exact absurd (l1 _ z) (Nat.not_lt.mpr (Nat.le_succ N))
    refine wpAny_pyNext_enum_itemD D1 he s1 hi (Nat.succ_ne_self N) nef fun u h' tk hP ho hs' hT hsz hk => ?_
    refine ⟨_, rfl, wpAny_letOwnedTupleGo_enum (s := { s with heap := h', toks := tk + 1 }) ho fun h'' he' sb => ?_⟩
    obtain ⟨x, ex, rx⟩ := v1 i u hP
    have hT2 : h''.get? s.heap.objs.size = some { cls := .type "tuple", data := .seq #[.int i tk, u] } := (sb.2 _ (Nat.ne_of_gt hel)).trans hT
    have new : ObjOk X.prog X.w (upd H s.heap.objs.size (.tup [.int (i : Nat), x])) h'' s.heap.objs.size (.tup [.int (i : Nat), x]) :=
      ⟨by show 2 ≤ sizeLine; decide, [.int i tk, u], .cons ⟨_, rfl⟩ (.cons rx .nil), ⟨_, hT2, rfl, _, rfl⟩⟩
    have I1 : Inv X pins σ (upd H s.heap.objs.size (.tup [.int (i : Nat), x])) { s with heap := h'', toks := tk + 1 } :=
      I.turnedNew (ch := [N + 1, N]) (fun b ob hb q => (sb.2 b (fun z => hb (by simp [z]))).trans (hk b ob (fun z => hb (by simp [z])) (fun z => hb (by simp [z])) q)) hf (Nat.le_refl _) new
    refine ⟨.ref s.heap.objs.size, _, I1, rfl, ⟨_, x, rfl, I.hok.fresh (Nat.le_refl _), rfl, ex⟩, ⟨⟨u, ?_⟩, Sc.at_keep (t1 _ _ hs') fun o q => (sb.2 N (Nat.ne_of_lt (Nat.lt_succ_self N))).trans q⟩, fun b hb => ?_⟩
    · rw [show ((i + 1 : Nat) : Int) = (i : Int) + 1 by omega]
      exact he'
    · have hb' : b < s.heap.objs.size := by
        rcases (by simpa using hb : b = N + 1 ∨ b = N) with z | z
        · rw [z]
          exact hel
        · rw [z]
          exact Nat.lt_of_succ_lt hel
      rw [upd_ne (Nat.ne_of_lt hb')]
      exact (hf b hb).1
  done := by
    intro X hP hw hK hc i pins s σ H E I hf st hg
    subst hP hw hK
    obtain ⟨⟨old, he⟩, h1⟩ := st
    obtain ⟨o1, rfl⟩ := hg
    have hh : X.A.in1.handled = none := I.ok.hd hc
    obtain ⟨f1, P1, St1, D1, s1, l1, v1, t1⟩ := Sc.draws (A := X.A.in1) I o1 b1 (Nat.le_refl N) hh h1
    obtain ⟨f0, f1', f2, f3, f4, f5⟩ := hf N (by simp)
    exact wpAny_pyNext_enum_endD D1 he s1 fun h' eb => ⟨rfl, I.turned (t' := s.toks) (fun b o hb q => eb b o hb q) f0 f1' f3 f4 f5⟩
  self := fun _ _ _ _ _ st h => let ⟨⟨_, he⟩, _⟩ := st; wpAny_pyIter_enum he h
def iEnumU (K : PySem.W.Frag) (ta : TA) : TI := fun σ H R => ta σ H fun vs H1 => ∃ S : Sc, vs = [S.v] ∧ (∀ z, S ≠ .txt z) ∧ S.ok K H1 ∧ R (Itee K S) H1
theorem pi_enumU {X : Cx} {e : Expr} {ta : TA} {p pos tpos : Pos} {elts : List Expr} {kk : Nat} (hg : Gl X "enumerate") (hm : X.mg "enumerate" = none) (ha : PA X [e] ta) (hs : starEach [e] X.env = [(false, eval e X.env)] := by rfl) :
    PI X (.Tuple elts kk tpos) (.Call (.Name "enumerate" p) [e] [] pos) (iEnumU X.K ta) := by
  refine ⟨fun pins s σ H R I h => ?_⟩
  refine Call_ (ld_blt I hg hm boot_enumerate (PyProof.Rows.callWith_type1 (thn (ha.run pos pins s σ H _ I h) fun us s1 ⟨vs, H1, I1, r1, q1⟩ => ?_) hs rfl))
  obtain ⟨S, ex, hS, hq, q⟩ := q1
  subst ex
  have fp : ∀ {h' : Heap} (hk : ∀ b o, s1.heap.get? b = some o → h'.get? b = some o), ∀ b ∈ [s1.heap.objs.size + 1, s1.heap.objs.size], s1.heap.objs.size ≤ b := fun {h'} hk b hb => by
    rcases (by simpa using hb : b = s1.heap.objs.size + 1 ∨ b = s1.heap.objs.size) with z | z
    · rw [z]
      exact Nat.le_succ _
    · rw [z]
      exact Nat.le_refl _
  cases r1 with
  | cons r rr =>
    cases rr
    cases S with
    | lst a xs =>
      obtain rfl := (show _ = Value.ref a from r)
      obtain ⟨its, rv, p', hz⟩ := I1.list hq
      refine call_enumerate_list p'.isList fun h' he hit hsz hk => wpAny_pyIter_enum he ?_
      exact ⟨s1.heap.objs.size + 1, [s1.heap.objs.size + 1, s1.heap.objs.size], _, _, H1, rfl, I1.kept (t' := s1.toks) hk, turn_ee (S := .lst a xs) p'.lt, ⟨⟨.none, he⟩, hit⟩, fun b hb => I1.fpOk (fp hk b hb) (I1.hok.fresh (fp hk b hb)), q⟩
    | tup a xs =>
      obtain rfl := (show _ = Value.ref a from r)
      obtain ⟨its, rv, p', hz⟩ := I1.tuple hq
      have pt : s1.heap.IsTuple a its.toArray := by
        obtain ⟨o, e, c, n, d⟩ := id p'
        exact ⟨o, e, c, n, d⟩
      refine call_enumT pt fun h' he hit hk => wpAny_pyIter_enum he ?_
      exact ⟨s1.heap.objs.size + 1, [s1.heap.objs.size + 1, s1.heap.objs.size], _, _, H1, rfl, I1.kept (t' := s1.toks) hk, turn_ee (S := .tup a xs) p'.lt, ⟨⟨.none, he⟩, hit⟩, fun b hb => I1.fpOk (fp hk b hb) (I1.hok.fresh (fp hk b hb)), q⟩
    | txt z => exact absurd rfl (hS z)
end Kb
set_option Elab.async false
set_option linter.all false
namespace Kb
open PySem PySem.Spec PyProof.Rows L2
section
variable {X : Cx} {c a b : Expr} {tc ta tb : TT} {pos : Pos}
/-- the truth of a if t else b -/
def tIfT (t ta tb : TT) : TT := fun σ H Q => t σ H fun c H1 => if c = true then ta σ H1 Q else tb σ H1 Q
theorem pt_ifE (hc : PT X c tc) (ha : PT X a ta) (hb : PT X b tb) : PT X (.IfExp c a b pos) (tIfT tc ta tb) := by
  refine ⟨fun pins s σ H Q I h => ?_⟩
  refine isTrue_IfExp (thn (hc.run pins s σ H _ I h) fun d s1 ⟨H1, I1, q1⟩ => ?_)
  cases d with
  | true => exact ha.run pins s1 σ H1 Q I1 q1
  | false => exact hb.run pins s1 σ H1 Q I1 q1
end
end Kb
set_option Elab.async false
set_option linter.all false
set_option maxRecDepth 100000
namespace Kb
open PySem PySem.Spec PyProof.Rows L2
section
variable {X : Cx} {a b c d : Expr} {ta tb tc td : TE} {pos : Pos}
/-- a op1 b op2 c op3 d -/
def tChain3 (r r' r'' : R2) (ta tb tc td : TE) : TE := fun σ H Q => ta σ H fun x H1 => tb σ H1 fun y H2 => r x y H2 fun z H3 => ∃ k, z = .bl k ∧
  (if k = true then tc σ H3 fun w H4 => r' y w H4 fun z' H5 => ∃ k', z' = .bl k' ∧ (if k' = true then td σ H5 fun u H6 => r'' w u H6 Q else Q (.bl false) H5) else Q (.bl false) H3)
theorem pt_chain3 {op op' op'' : CmpOp} {r r' r'' : R2} (ho : OpR X (compareOp op) r) (ho' : OpR X (compareOp op') r') (ho'' : OpR X (compareOp op'') r'') (ha : PE X a ta) (hb : PE X b tb) (hc : PE X c tc) (hd : PE X d td)
    (hm : lastMarks [op, op', op''] [b, c, d] = false := by with_unfolding_all rfl) : PT X (.Compare a [op, op', op''] [b, c, d] pos) (tTest (tChain3 r r' r'' ta tb tc td)) := by
  refine ⟨fun pins s σ H Q I h => ?_⟩
  refine isTrue_chain (thn (ha.run pins s σ H _ I h) fun v s1 ⟨x, H1, I1, r1, q1⟩ => test_link (thn (hb.run pins s1 σ H1 _ I1 q1) fun u s2 ⟨y, H2, I2, r2, q2⟩ =>
    thn (ho pins s2 σ H2 x y v u _ I2 r1 r2 q2) fun d s3 ⟨z, H3, I3, r3, k, e, q3⟩ => ?_)) hm
  subst e
  cases r3
  refine wpAny_truthy_bool ?_
  cases k with
  | false =>
    obtain ⟨k', e', q'⟩ := q3
    cases e'
    exact ite_ff ⟨H3, I3, q'⟩
  | true =>
    refine ite_tt (test_link (thn (hc.run pins s3 σ H3 _ I3 q3) fun w' s4 ⟨z', H4, I4, r4, q4⟩ => thn (ho' pins s4 σ H4 y z' u w' _ I4 r2 r4 q4) fun d' s5 ⟨z2, H5, I5, r5, k2, e2, q5⟩ => ?_))
    subst e2
    cases r5
    refine wpAny_truthy_bool ?_
    cases k2 with
    | false =>
      obtain ⟨k', e', q'⟩ := q5
      cases e'
      exact ite_ff ⟨H5, I5, q'⟩
    | true =>
      refine ite_tt (test_last (thn (hd.run pins s5 σ H5 _ I5 q5) fun w2 s6 ⟨z3, H6, I6, r6, q6⟩ => thn (ho'' pins s6 σ H6 z' z3 w' w2 _ I6 r4 r6 q6) fun d2 s7 ⟨z4, H7, I7, r7, k3, e3, q7⟩ => ?_))
      subst e3
      cases r7
      exact wpAny_truthy_bool ⟨H7, I7, q7⟩
end
end Kb
set_option Elab.async false
set_option linter.all false
set_option maxRecDepth 100000
namespace Kb
open PySem PySem.Spec PyProof.Rows L2
section
variable {X : Cx} {CX : CXT} {k : Nat} {f : Addr} {fd : FuncData} {ps ks : List Str} {sp : Sp} {E : XK} {x : Str} {p pos : Pos} {kws : List Keyword} {tk : TA} {g : List Value → List Value → List Value} {gV : List V → List V → List V}
/-- f(k = v, ..) -/
theorem pe_callN0 (F : FnOk X.prog X.w X.K X.mg X.base CX k f fd ps sp) (hr : Room k X.A) (hg : Gl X x) (hm : X.mg x = some (.ref f)) (hk : PySem.W.keepIn X.K (.ref f) = true) (hb : KBn X.K fd ps 0 ks g gV) (hx : Passes CX X E)
    (hkw : PK X kws tk) (hall : (backToKw pos (keywordEach kws X.env)).all (·.1.isSome) = true := by rfl) (hks : (backToKw pos (keywordEach kws X.env)).filterMap (·.1) = ks := by rfl)
    (hdb : (x == ("__debug__" : Str)) = false := by decide)
    (hpl : ((backTo pos (starEach [] X.env)).any (·.1) || (backToKw pos (keywordEach kws X.env)).any (·.1.isNone)) = false := by rfl) :
    PE X (.Call (.Name x p) [] kws pos) (tCallN 0 ks.length sp gV E tNil tk) := by
  refine ⟨fun pins s σ H Q I h => ?_⟩
  refine wpAny_Call_Name_kw (ld_glob I hg hm ?_ hdb)
  refine PySem.W.callWith_KW0 (h₀ := X.base) I.ok.mod.kin hk hall ?_ hpl
  refine thn (hkw.run pos pins s σ H _ I h) fun ws s2 ⟨zs, H2, I2, rz, l1, l2, q2⟩ => ⟨I2.kIn, ?_⟩
  rw [hks]
  exact run_fnN (us := []) (vs := []) F hr hb hx I2 .nil rz rfl l2 q2
end
end Kb
namespace Kb
open PySem PySem.Spec PyProof.Rows L2
section
variable {K : PySem.W.Frag} {x qual : Str} {st : Stmt} {f : Addr} {fd : FuncData} {a b c : Str}
/-- f(a = v) -/
theorem kbn1 (F : Fun K x qual st f fd) (h : ∀ (kV doc pm : Value) (an : Option Addr) (cdv ct : Value) (u : Value), bindArgs (PySem.W.fnOf x qual (defArgs st) (defBody st) (defScope st) .none kV doc pm an cdv ct) ⟨[], [(a, u)]⟩ = pure [(a, u)]) :
    KBn K fd [a] 0 [a] (fun _ ws => ws) (fun _ zs => zs) := by
  obtain ⟨oc, od, kV, doc, pm, an, cdv, ct, osl, rfl, lk, hcd⟩ := F.ex
  refine ⟨fun s us ws _ hu hw => ?_, fun _ r => r⟩
  match us, hu, ws, hw with
  | [], _, [u], _ => exact .of_eq (h kV doc pm an cdv ct u)
/-- f(a = v, b = u) of a def of a, b -/
theorem kbn2 (F : Fun K x qual st f fd) (h : ∀ (kV doc pm : Value) (an : Option Addr) (cdv ct : Value) (u v : Value), bindArgs (PySem.W.fnOf x qual (defArgs st) (defBody st) (defScope st) .none kV doc pm an cdv ct) ⟨[], [(a, u), (b, v)]⟩ = pure [(a, u), (b, v)]) :
    KBn K fd [a, b] 0 [a, b] (fun _ ws => ws) (fun _ zs => zs) := by
  obtain ⟨oc, od, kV, doc, pm, an, cdv, ct, osl, rfl, lk, hcd⟩ := F.ex
  refine ⟨fun s us ws _ hu hw => ?_, fun _ r => r⟩
  match us, hu, ws, hw with
  | [], _, [u, v], _ => exact .of_eq (h kV doc pm an cdv ct u v)
def swap2 {α : Type} : List α → List α
  | [u, v] => [v, u]
  | l => l
/-- f(b = u, a = v) of a def of a, b -/
theorem kbn2s (F : Fun K x qual st f fd) (h : ∀ (kV doc pm : Value) (an : Option Addr) (cdv ct : Value) (u v : Value), bindArgs (PySem.W.fnOf x qual (defArgs st) (defBody st) (defScope st) .none kV doc pm an cdv ct) ⟨[], [(b, u), (a, v)]⟩ = pure [(a, v), (b, u)]) :
    KBn K fd [a, b] 0 [b, a] (fun _ ws => swap2 ws) (fun _ zs => swap2 zs) := by
  obtain ⟨oc, od, kV, doc, pm, an, cdv, ct, osl, rfl, lk, hcd⟩ := F.ex
  refine ⟨fun s us ws _ hu hw => ?_, fun {vs us zs ws} _ r => ?_⟩
  · match us, hu, ws, hw with
    | [], _, [u, v], _ => exact .of_eq (h kV doc pm an cdv ct u v)
  · cases r with
    | nil => exact .nil
    | cons r1 r2 =>
      cases r2 with
      | nil => exact .cons r1 .nil
      | cons r3 r4 =>
        cases r4 with
        | nil => exact .cons r3 (.cons r1 .nil)
        | cons r5 r6 => exact .cons r1 (.cons r3 (.cons r5 r6))
end
end Kb
set_option Elab.async false
set_option linter.all false
set_option maxRecDepth 100000
set_option maxHeartbeats 4000000
/-! x is True, of any value -/
namespace KbIs
open PySem PySem.Spec PyProof.Rows L2 Kb
def rIsBo : R2 := fun x y H Q => ∃ b, y = .bl b ∧ (match x with | .non => True | .bl _ => True | .int _ => True | .str _ => True | .ref _ => True | _ => False) ∧ Q (.bl (decide (x = .bl b))) H
theorem op_isBo {X : Cx} : OpR X (compareOp .Is) rIsBo := by
  intro pins s σ H x y v u Q I rx ry h
  obtain ⟨b, rfl, hk, q⟩ := h
  cases (show u = Value.bool b from ry)
  have no : ∀ z : V, z ≠ .bl b → Q (.bl (decide (z = .bl b))) H → Q (.bl false) H := fun z hz q => by
    rw [decide_eq_false hz] at q
    exact q
  cases x with
  | non =>
    cases (show v = Value.none from rx)
    exact wpAny_is_other rfl (fun z => by cases z) ⟨.bl false, H, I, rfl, no .non (fun z => by cases z) q⟩
  | bl a =>
    cases (show v = Value.bool a from rx)
    by_cases e : a = b
    · subst e
      exact wpAny_is_self rfl ⟨.bl true, H, I, rfl, by simpa using q⟩
    · exact wpAny_is_other rfl (fun z => e (Value.bool.inj z)) ⟨.bl false, H, I, rfl, by simpa [e] using q⟩
  | int i =>
    obtain ⟨t, rfl⟩ := (show ∃ t, v = Value.int i t from rx)
    exact wpAny_is_other rfl (fun z => by cases z) ⟨.bl false, H, I, rfl, no (.int i) (fun z => by cases z) q⟩
  | str i =>
    obtain ⟨t, rfl⟩ := (show ∃ t, v = Value.str i t from rx)
    exact wpAny_is_other rfl (fun z => by cases z) ⟨.bl false, H, I, rfl, no (.str i) (fun z => by cases z) q⟩
  | ref a =>
    cases (show v = Value.ref a from rx)
    exact wpAny_is_other rfl (fun z => by cases z) ⟨.bl false, H, I, rfl, no (.ref a) (fun z => by cases z) q⟩
  | _ => exact hk.elim
end KbIs
set_option Elab.async false
set_option linter.all false
set_option maxRecDepth 100000
set_option maxHeartbeats 2000000
/-! an expression read over the first of a def's names; an item ahead of the end of a list, for op= -/
namespace Kb
open PySem PySem.Spec PyProof.Rows L2
abbrev cutN (X : Cx) (n : Nat) : Cx := { X with N := X.N.take n }
section
variable {X : Cx} {n : Nat} {pins : List (Addr × Obj)} {σ : L2.St} {H : Hp} {s : Shared}
theorem cut_ok (o : X.Ok) : (cutN X n).Ok := ⟨o.mod, o.kind, o.glob, o.blt, o.above, o.inj, o.has, o.cab, o.hd, o.frames, o.stk, o.exf, o.bs, o.bsz, o.noex, o.exfs, o.funs, o.frf⟩
theorem uncut_ok (o : (cutN X n).Ok) : X.Ok := ⟨o.mod, o.kind, o.glob, o.blt, o.above, o.inj, o.has, o.cab, o.hd, o.frames, o.stk, o.exf, o.bs, o.bsz, o.noex, o.exfs, o.funs, o.frf⟩
theorem cut_inv (I : Inv X pins σ H s) : Inv (cutN X n) pins (σ.take n) H s := by
  obtain ⟨m, hm, hl⟩ := I.loc
  refine ⟨cut_ok I.ok, I.os, I.bare, I.base, ⟨m, hm, fun i x v h1 h2 h3 => ?_⟩, I.cell, I.free, I.freeC, I.pin, I.hok, ?_⟩
  · have hi : i < n := by
      have := (List.getElem?_eq_some_iff.mp h1).1
      rw [List.length_take] at this
      omega
    rw [List.getElem?_take_of_lt hi] at h1 h2
    exact hl i x v h1 h2 h3
  · show (σ.take n).length = (X.N.take n).length
    rw [List.length_take, List.length_take, I.len]
theorem uncut_inv {H' : Hp} {s' : Shared} (hl : σ.length = X.N.length) (hn : ∀ i v, n ≤ i → σ[i]? ≠ some (some v)) (I : Inv (cutN X n) pins (σ.take n) H' s') : Inv X pins σ H' s' := by
  obtain ⟨m, hm, h0⟩ := I.loc
  refine ⟨uncut_ok I.ok, I.os, I.bare, I.base, ⟨m, hm, fun i x v h1 h2 h3 => ?_⟩, I.cell, I.free, I.freeC, I.pin, I.hok, hl⟩
  by_cases hi : i < n
  · exact h0 i x v ((List.getElem?_take_of_lt hi).trans h1) ((List.getElem?_take_of_lt hi).trans h2) h3
  · exact absurd h2 (hn i v (by omega))
theorem pe_cut {e : Expr} {t : TE} (n : Nat) (h : PE (cutN X n) e t) : PE X e (fun σ H Q => (∀ i v, n ≤ i → σ[i]? ≠ some (some v)) ∧ t (σ.take n) H Q) := by
  refine ⟨fun pins s σ H Q I ⟨hn, q⟩ => ?_⟩
  exact thn (h.run pins s (σ.take n) H Q (cut_inv I) q) fun u s1 ⟨x, H1, I1, r1, q1⟩ => ⟨x, H1, uncut_inv I.len hn I1, r1, q1⟩
/-- xs[i], i below 0 -/
theorem get_neg : PGet X (fun o i H Q => ∃ p xs k v, o = .ref p ∧ i = .int k ∧ k < 0 ∧ SqL X.K H p xs ∧ atI xs k = some v ∧ Q v H) := by
  intro pins s σ H x y v u Q I rx ry h
  obtain ⟨p, xs, i, z, rfl, rfl, h0, hq, he, q⟩ := h
  cases rx
  obtain ⟨t, rfl⟩ := ry
  obtain ⟨its, r, pl, hz⟩ := I.list hq
  obtain ⟨j, h1, h2, h3, h4, h5⟩ := atI_get he
  obtain ⟨w, ew, rw'⟩ := r.get h2
  have hl := r.length
  have hn := line63
  have hj : (i + (its.toArray.size : Int)).toNat = j := by
    rw [seqIndex_neg (by omega) h4] at h1
    rw [List.size_toArray, ← hl]
    exact Option.some.inj h1
  exact wpAny_getItem_list_neg pl.isList (by omega) (by rw [List.size_toArray] <;> omega) (by omega) (by rw [hj]; simpa using ew) ⟨z, H, I, rw', q⟩
end
end Kb
set_option Elab.async false
set_option linter.all false
set_option maxRecDepth 100000
set_option maxHeartbeats 4000000
namespace L2
open PySem PySem.Spec PyProof.Rows
section
variable {X : Cx}
/-- name = {..: .. for ..} on one line, the name a local -/
theorem ps_setDc {i : Nat} {y : Str} {py : Pos} {kx vx tg iter : Expr} {ifs : List Expr} {scope : Scope} {own : List (Str × Nat)} {pos spos : Pos} {wi : TI} {g : TG} {tt : TT} {tk tv : TE} (hc : X.calm = true) (hN : X.N.Nodup) (hy : X.N[i]? = some y) (hyl : X.env.scope.names.lookup y = some .local)
    (hsw : swapsWith (.DictComp kx vx [⟨tg, iter, ifs, 0⟩] scope pos) (some (.Name y py)) spos.line X.env = pure true) (hi : PI X tg iter wi) (ok : BlkOk X.N X.env.scope scope own)
    (hg : ∀ (s : Shared) (H : Hp) (C : Addr) (cl : List (Str × Addr)) (fp : List Addr), PG (X.blk s H scope (compEnvC scope cl C X.env) fp) tg g) (ht : ∀ (s : Shared) (H : Hp) (C : Addr) (cl : List (Str × Addr)) (fp : List Addr), PTs (X.blk s H scope (compEnvC scope cl C X.env) fp) ifs tt)
    (hk : ∀ (s : Shared) (H : Hp) (C : Addr) (cl : List (Str × Addr)) (fp : List Addr), PE (X.blk s H scope (compEnvC scope cl C X.env) fp) kx tk)
    (he : ∀ (s : Shared) (H : Hp) (C : Addr) (cl : List (Str × Addr)) (fp : List Addr), PE (X.blk s H scope (compEnvC scope cl C X.env) fp) vx tv) (hs : ∀ x, foldedSetIterable iter X.env x = pure x := by intro _; rfl) :
    PS X (.Assign [.Name y py] (.DictComp kx vx [⟨tg, iter, ifs, 0⟩] scope pos) spos) (tAsg (tDc wi g tt tk tv (own.map (·.2))) (gName i)) := by
  refine ⟨fun pins s σ H D I h => ?_⟩
  rw [exec_Assign_Name_used _ _ _ _ hsw]
  refine wpAny_bind (wpAny_standAt (wpAny_bind ?_))
  show wpAny _ X.A (do let _ ← comprehension (.DictComp kx vx [⟨tg, iter, ifs, 0⟩] scope pos) scope X.env (firstIterPos [⟨tg, iter, ifs, 0⟩] pos) newDict false (eval iter X.env) (some (assign (.Name y py) X.env))) _ _ s
  have h : tDc wi g tt tk tv (own.map (·.2)) σ H (fun x H1 => gName i x σ H1 D.nx) := h
  refine wpAny_bind (thn (dc_core (Qf := fun _ s' => SP X pins D .next s') hc hN I hi ok hg ht hk he hs h fun L C s' m H' I' q hn f => ?_) fun _ s' hq => wpAny_pure (wpAny_pure hq))
  show wpAny _ _ (assign (.Name y py) X.env (.ref L)) _ _ _
  refine wpAny_assign_Name (store_ok2 (v := V.ref L) I' hN hy (.inl hyl) rfl (fun s2 I2 ⟨a, sb, ha⟩ => ?_) (.inr hyl))
  obtain ⟨f0, f1, f2, f3, f4, f5⟩ := f
  have haC : C ≠ a := by
    rcases ha with z | z
    · rw [z]; exact f1
    · exact fun e => f4 y a z e.symm
  refine ⟨m, hn.sameBut sb haC, fun h3 sb3 => ?_⟩
  exact ⟨_, H', I2.turned (t' := s2.toks) (fun b o hb e => (sb3.2 b hb).trans e) f0 f1 f3 f4 f5, q⟩
theorem sw_trueD {kx vx : Expr} {gs : List Comprehension} {scope : Scope} {pos py : Pos} {y : Str} {l : Nat} {env : Env} (hk : env.scope.kind = .function) (hy : env.scope.names.lookup y = some .local) (hl : (py.line == pos.line) = true)
    (ha : (scope.names.any fun (n, k) => n == y && (k == .local || k == .cell)) = false) : swapsWith (.DictComp kx vx gs scope pos) (some (.Name y py)) l env = pure true := by
  have ky : env.kindOf y = some .local := hy
  have hb : env.blockKind = .function := by unfold Env.blockKind; rw [hk]; rfl
  unfold swapsWith
  simp only [hb, ky, ha, Expr.pos, hl]
  rfl
end
end L2
set_option Elab.async false
set_option linter.all false
set_option maxRecDepth 100000
set_option maxHeartbeats 2000000
namespace Fx
open PySem PySem.Spec PyProof.Rows L2 Kb
/-- where the program's classes of errors stand -/
class Nm where
  adr : Str → Addr
variable [Nm]
/-! ### heaps -/
def isTup : HO → Bool
  | .tup _ => true
  | .ext _ => true
  | .frz _ _ => true
  | _ => false
/-- all stands but what is at S and no tuple -/
def Kp (S : List Addr) (H H' : Hp) : Prop := ∀ b o, H b = some o → (isTup o = true ∨ b ∉ S) → H' b = some o
theorem Kp.refl {S : List Addr} {H : Hp} : Kp S H H := fun _ _ e _ => e
theorem Kp.trans {S : List Addr} {H H' H'' : Hp} (a : Kp S H H') (b : Kp S H' H'') : Kp S H H'' := fun x o e h => b x o (a x o e h) h
theorem Kp.mono {S S' : List Addr} {H H' : Hp} (h : ∀ b ∈ S, b ∈ S') (a : Kp S H H') : Kp S' H H' := fun x o e q => a x o e (q.imp id fun n m => n (h _ m))
theorem Kp.of {S : List Addr} {H H' : Hp} (a : Kp [] H H') : Kp S H H' := a.mono fun _ m => absurd m List.not_mem_nil
theorem Kp.new {S : List Addr} {H : Hp} {p : Addr} {o : HO} (n : H p = none) : Kp S H (upd H p o) := fun b x e _ => by rw [upd_ne (ne_of_none e n)]; exact e
theorem Kp.set {S : List Addr} {H0 H : Hp} {p : Addr} {o : HO} (a : Kp S H0 H) (hp : p ∈ S) (hn : ∀ u, H p = some u → isTup u = false) : Kp S H0 (upd H p o) := fun b x e h => by
  have h1 := a b x e h
  by_cases hb : b = p
  · subst hb
    rcases h with h | h
    · rw [hn x h1] at h; cases h
    · exact absurd hp h
  · rw [upd_ne hb]; exact h1
theorem Kp.there {S : List Addr} {H H' : Hp} (a : Kp S H H') {b : Addr} {o : HO} (hb : b ∉ S) (e : H b = some o) : H' b = some o := a b o e (.inr hb)
/-- all but tables, tuples .. -/
theorem sqT {K : PySem.W.Frag} {H : Hp} {a : Addr} {xs : List V} (e : H a = some (.tup xs)) : SqT K H a xs := .inl (.inl e)
theorem sqL {K : PySem.W.Frag} {H : Hp} {a : Addr} {xs : List V} (e : H a = some (.lst xs)) : SqL K H a xs := .inl (.inl e)
/-- a written tuple, a written list -/
def KT (K : PySem.W.Frag) (a : Addr) (xs : List V) : Prop :=
  ∃ (o : Obj) (its : Array Value) (n : Nat), K.lookup a = some o ∧ o.cls = .type "tuple" ∧ o.data = .seq its n ∧ its.size ≤ sizeLine ∧ Vals xs its.toList
theorem KT.sq {K : PySem.W.Frag} {H : Hp} {a : Addr} {xs : List V} (h : KT K a xs) : SqT K H a xs := .inr h
def keyD : Key → PyData
  | .inl i => .int i
  | .inr x => .str x
theorem keyD_inj : ∀ {k j : Key}, keyD k = keyD j → k = j
  | .inl _, .inl _, e => by injection e with e; rw [e]
  | .inr _, .inr _, e => by injection e with e; rw [e]
  | .inl _, .inr _, e => by cases e
  | .inr _, .inl _, e => by cases e
/-- ahead of the pairs of a dict whose keys are tuples -/
def mark : PyData × PyData := (.none, .none)
def tkeyD (k : List Key) : PyData := .tuple (k.map keyD)
/-- an error that is held as a value: its class, its fields -/
def errD (c : Str) (fs : List (PyData × PyData)) : PyData := .dict ((.bool true, .str c) :: fs)
/-! ### data -/
mutual
/-- x is a piece of data that stays while all but S stays -/
inductive Dt (S : List Addr) (H : Hp) : V → PyData → Prop
  | non : Dt S H .non .none
  | bl (b : Bool) : Dt S H (.bl b) (.bool b)
  | int (i : Int) : Dt S H (.int i) (.int i)
  | str (x : Str) : Dt S H (.str x) (.str x)
  | lst {a : Addr} {xs : List V} {ds : List PyData} : H a = some (.lst xs) → a ∉ S → DtL S H xs ds → Dt S H (.ref a) (.list ds)
  | tup {a : Addr} {xs : List V} {ds : List PyData} : H a = some (.tup xs) → DtL S H xs ds → Dt S H (.ref a) (.tuple ds)
  | dct {a : Addr} {kvs : List (Key × V)} {ds : List (PyData × PyData)} : H a = some (.dK kvs) → a ∉ S → DtK S H kvs ds → Dt S H (.ref a) (.dict ds)
  | dtt {a : Addr} {kvs : List (List Key × V)} {ds : List (PyData × PyData)} : H a = some (.dT kvs) → a ∉ S → DtT S H kvs ds → Dt S H (.ref a) (.dict (mark :: ds))
  | exc {a : Addr} {c : Str} : H a = some (ExV (.ref (Nm.adr c)) none a) → Dt S H (.ref a) (.dict [(.bool true, .str c)])
  | exd {a d : Addr} {c : Str} {kv : List (Str × V)} {ds : List (PyData × PyData)} : H a = some (ExV (.ref (Nm.adr c)) (some d) a) → d ∉ S → H d = some (.xd kv) → DtX S H kv ds → Dt S H (.ref a) (.dict ((.bool true, .str c) :: ds))
inductive DtL (S : List Addr) (H : Hp) : List V → List PyData → Prop
  | nil : DtL S H [] []
  | cons {v : V} {vs : List V} {d : PyData} {ds : List PyData} : Dt S H v d → DtL S H vs ds → DtL S H (v :: vs) (d :: ds)
inductive DtK (S : List Addr) (H : Hp) : List (Key × V) → List (PyData × PyData) → Prop
  | nil : DtK S H [] []
  | cons {k : Key} {v : V} {vs : List (Key × V)} {d : PyData} {ds : List (PyData × PyData)} : Dt S H v d → DtK S H vs ds → DtK S H ((k, v) :: vs) ((keyD k, d) :: ds)
inductive DtT (S : List Addr) (H : Hp) : List (List Key × V) → List (PyData × PyData) → Prop
  | nil : DtT S H [] []
  | cons {k : List Key} {v : V} {vs : List (List Key × V)} {d : PyData} {ds : List (PyData × PyData)} : Dt S H v d → DtT S H vs ds → DtT S H ((k, v) :: vs) ((tkeyD k, d) :: ds)
inductive DtX (S : List Addr) (H : Hp) : List (Str × V) → List (PyData × PyData) → Prop
  | nil : DtX S H [] []
  | cons {k : Str} {v : V} {vs : List (Str × V)} {d : PyData} {ds : List (PyData × PyData)} : Dt S H v d → DtX S H vs ds → DtX S H ((k, v) :: vs) ((.str k, d) :: ds)
end
section
variable {K : PySem.W.Frag} {S S' : List Addr} {H H' : Hp}
mutual
theorem Dt.mk (k : Kp S H H') (hs : ∀ b ∈ S', b ∈ S ∨ H b = none) : ∀ {d : PyData} {x : V}, Dt S H x d → Dt S' H' x d
  | .none, _, .non => .non
  | .bool _, _, .bl _ => .bl _
  | .int _, _, .int _ => .int _
  | .str _, _, .str _ => .str _
  | .list _, _, .lst e n h => .lst (k _ _ e (.inr n)) (fun m => (hs _ m).elim n fun z => by rw [e] at z; cases z) (DtL.mk k hs h)
  | .tuple _, _, .tup e h => .tup (k _ _ e (.inl rfl)) (DtL.mk k hs h)
  | .dict _, _, .dct e n h => .dct (k _ _ e (.inr n)) (fun m => (hs _ m).elim n fun z => by rw [e] at z; cases z) (DtK.mk k hs h)
  | .dict _, _, .dtt e n h => .dtt (k _ _ e (.inr n)) (fun m => (hs _ m).elim n fun z => by rw [e] at z; cases z) (DtT.mk k hs h)
  | .dict _, _, .exc e => .exc (k _ _ e (.inl rfl))
  | .dict _, _, .exd e n q h => .exd (k _ _ e (.inl rfl)) (fun m => (hs _ m).elim n fun z => by rw [q] at z; cases z) (k _ _ q (.inr n)) (DtX.mk k hs h)
theorem DtL.mk (k : Kp S H H') (hs : ∀ b ∈ S', b ∈ S ∨ H b = none) : ∀ {ds : List PyData} {xs : List V}, DtL S H xs ds → DtL S' H' xs ds
  | [], _, .nil => .nil
  | _ :: _, _, .cons h r => .cons (Dt.mk k hs h) (DtL.mk k hs r)
theorem DtK.mk (k : Kp S H H') (hs : ∀ b ∈ S', b ∈ S ∨ H b = none) : ∀ {ds : List (PyData × PyData)} {xs : List (Key × V)}, DtK S H xs ds → DtK S' H' xs ds
  | [], _, .nil => .nil
  | (_, _) :: _, _, .cons h r => .cons (Dt.mk k hs h) (DtK.mk k hs r)
theorem DtT.mk (k : Kp S H H') (hs : ∀ b ∈ S', b ∈ S ∨ H b = none) : ∀ {ds : List (PyData × PyData)} {xs : List (List Key × V)}, DtT S H xs ds → DtT S' H' xs ds
  | [], _, .nil => .nil
  | (_, _) :: _, _, .cons h r => .cons (Dt.mk k hs h) (DtT.mk k hs r)
theorem DtX.mk (k : Kp S H H') (hs : ∀ b ∈ S', b ∈ S ∨ H b = none) : ∀ {ds : List (PyData × PyData)} {xs : List (Str × V)}, DtX S H xs ds → DtX S' H' xs ds
  | [], _, .nil => .nil
  | (_, _) :: _, _, .cons h r => .cons (Dt.mk k hs h) (DtX.mk k hs r)
end
theorem Dt.kp (k : Kp S H H') {d : PyData} {x : V} (h : Dt S H x d) : Dt S H' x d := h.mk k fun _ m => .inl m
theorem DtL.kp (k : Kp S H H') {d : List PyData} {x : List V} (h : DtL S H x d) : DtL S H' x d := h.mk k fun _ m => .inl m
theorem DtK.kp (k : Kp S H H') {d : List (PyData × PyData)} {x : List (Key × V)} (h : DtK S H x d) : DtK S H' x d := h.mk k fun _ m => .inl m
theorem DtT.kp (k : Kp S H H') {d : List (PyData × PyData)} {x : List (List Key × V)} (h : DtT S H x d) : DtT S H' x d := h.mk k fun _ m => .inl m
theorem DtX.kp (k : Kp S H H') {d : List (PyData × PyData)} {x : List (Str × V)} (h : DtX S H x d) : DtX S H' x d := h.mk k fun _ m => .inl m
theorem DtX.sub (hs : ∀ b ∈ S', b ∈ S) {d : List (PyData × PyData)} {x : List (Str × V)} (h : DtX S H x d) : DtX S' H x d := h.mk .refl fun _ m => .inl (hs _ m)
theorem Dt.sub (hs : ∀ b ∈ S', b ∈ S) {d : PyData} {x : V} (h : Dt S H x d) : Dt S' H x d := h.mk .refl fun _ m => .inl (hs _ m)
theorem DtL.sub (hs : ∀ b ∈ S', b ∈ S) {d : List PyData} {x : List V} (h : DtL S H x d) : DtL S' H x d := h.mk .refl fun _ m => .inl (hs _ m)
theorem Dt.grow {p : Addr} (n : H p = none) {d : PyData} {x : V} (h : Dt S H x d) : Dt (p :: S) H x d := h.mk .refl fun _ m => (List.mem_cons.mp m).elim (fun e => .inr (e ▸ n)) .inl
theorem DtL.grow {p : Addr} (n : H p = none) {d : List PyData} {x : List V} (h : DtL S H x d) : DtL (p :: S) H x d := h.mk .refl fun _ m => (List.mem_cons.mp m).elim (fun e => .inr (e ▸ n)) .inl
theorem DtK.grow {p : Addr} (n : H p = none) {d : List (PyData × PyData)} {x : List (Key × V)} (h : DtK S H x d) : DtK (p :: S) H x d := h.mk .refl fun _ m => (List.mem_cons.mp m).elim (fun e => .inr (e ▸ n)) .inl
theorem DtT.grow {p : Addr} (n : H p = none) {d : List (PyData × PyData)} {x : List (List Key × V)} (h : DtT S H x d) : DtT (p :: S) H x d := h.mk .refl fun _ m => (List.mem_cons.mp m).elim (fun e => .inr (e ▸ n)) .inl
theorem DtL.len : ∀ {xs : List V} {ds : List PyData}, DtL S H xs ds → xs.length = ds.length
  | _, _, .nil => rfl
  | _, _, .cons _ r => congrArg (· + 1) (DtL.len r)
theorem DtL.get : ∀ {xs : List V} {ds : List PyData} {i : Nat} {d : PyData}, DtL S H xs ds → ds[i]? = some d → ∃ x, xs[i]? = some x ∧ Dt S H x d
  | _, _, 0, _, .cons h _, e => by cases e; exact ⟨_, rfl, h⟩
  | _, _, i + 1, _, .cons _ r, e => DtL.get (i := i) r e
  | _, _, _, _, .nil, e => by cases e
theorem DtL.get' : ∀ {xs : List V} {ds : List PyData} {i : Nat} {x : V}, DtL S H xs ds → xs[i]? = some x → ∃ d, ds[i]? = some d ∧ Dt S H x d
  | _, _, 0, _, .cons h _, e => by cases e; exact ⟨_, rfl, h⟩
  | _, _, i + 1, _, .cons _ r, e => DtL.get' (i := i) r e
  | _, _, _, _, .nil, e => by cases e
theorem DtL.drop : ∀ {xs : List V} {ds : List PyData} (i : Nat), DtL S H xs ds → DtL S H (xs.drop i) (ds.drop i)
  | _, _, 0, h => h
  | _, _, _ + 1, .nil => .nil
  | _, _, i + 1, .cons _ r => DtL.drop i r
theorem DtL.app : ∀ {xs ys : List V} {ds es : List PyData}, DtL S H xs ds → DtL S H ys es → DtL S H (xs ++ ys) (ds ++ es)
  | _, _, _, _, .nil, h => h
  | _, _, _, _, .cons a r, h => .cons a (DtL.app r h)
theorem DtL.take : ∀ {xs : List V} {ds : List PyData} (i : Nat), DtL S H xs ds → DtL S H (xs.take i) (ds.take i)
  | _, _, 0, _ => .nil
  | _, _, _ + 1, .nil => .nil
  | _, _, i + 1, .cons h r => .cons h (DtL.take i r)
theorem DtL.set {x : V} {d : PyData} (hx : Dt S H x d) : ∀ {xs : List V} {ds : List PyData} (i : Nat), DtL S H xs ds → DtL S H (xs.set i x) (ds.set i d)
  | _, _, _, .nil => .nil
  | _, _, 0, .cons _ r => .cons hx r
  | _, _, i + 1, .cons h r => .cons h (DtL.set hx i r)
theorem DtL.erase : ∀ {xs : List V} {ds : List PyData} (i : Nat), DtL S H xs ds → DtL S H (xs.eraseIdx i) (ds.eraseIdx i)
  | _, _, _, .nil => .nil
  | _, _, 0, .cons _ r => r
  | _, _, i + 1, .cons h r => .cons h (DtL.erase i r)
theorem DtL.snoc {xs : List V} {ds : List PyData} {x : V} {d : PyData} (h : DtL S H xs ds) (hx : Dt S H x d) : DtL S H (xs ++ [x]) (ds ++ [d]) := h.app (.cons hx .nil)
theorem DtL.ints : ∀ (ns : List Int), DtL S H (ns.map V.int) (ns.map PyData.int)
  | [] => .nil
  | _ :: r => .cons (.int _) (DtL.ints r)
theorem DtL.strs : ∀ (ns : List Str), DtL S H (ns.map V.str) (ns.map PyData.str)
  | [] => .nil
  | _ :: r => .cons (.str _) (DtL.strs r)
/-- scalars have one value -/
theorem Dt.int_inv {x : V} {i : Int} (h : Dt S H x (.int i)) : x = .int i := by cases h; rfl
theorem Dt.str_inv {x : V} {z : Str} (h : Dt S H x (.str z)) : x = .str z := by cases h; rfl
theorem Dt.bl_inv {x : V} {b : Bool} (h : Dt S H x (.bool b)) : x = .bl b := by cases h; rfl
theorem Dt.non_inv {x : V} (h : Dt S H x .none) : x = .non := by cases h; rfl
theorem DtL.int_inv : ∀ {ns : List Int} {xs : List V}, DtL S H xs (ns.map PyData.int) → xs = ns.map V.int
  | [], _, .nil => rfl
  | _ :: _, _, .cons h r => by rw [h.int_inv, DtL.int_inv r]; rfl
theorem DtL.str_inv : ∀ {ns : List Str} {xs : List V}, DtL S H xs (ns.map PyData.str) → xs = ns.map V.str
  | [], _, .nil => rfl
  | _ :: _, _, .cons h r => by rw [h.str_inv, DtL.str_inv r]; rfl
mutual
/-- no dict within -/
def plain : PyData → Bool
  | .dict _ => false
  | .list xs => plains xs
  | .tuple xs => plains xs
  | _ => true
def plains : List PyData → Bool
  | [] => true
  | x :: xs => plain x && plains xs
end
mutual
theorem plain_lay : ∀ {d : PyData}, d.canLay0 = true → plain d = true
  | .none, _ => rfl
  | .bool _, _ => rfl
  | .int _, _ => rfl
  | .str _, _ => rfl
  | .list xs, h => by
    unfold plain
    exact plains_lay (by simpa [PyData.canLay0] using h)
  | .tuple xs, h => by
    unfold plain
    exact plains_lay (by simpa [PyData.canLay0] using h)
  | .dict _, h => by simp [PyData.canLay0] at h
theorem plains_lay : ∀ {d : List PyData}, PyData.canLayAll0 d = true → plains d = true
  | [], _ => rfl
  | x :: xs, h => by
    have h' : x.canLay0 = true ∧ PyData.canLayAll0 xs = true := by simpa [PyData.canLayAll0] using h
    unfold plains
    rw [plain_lay h'.1, plains_lay h'.2]
    rfl
end
mutual
theorem Dt.dp : ∀ {d : PyData} {x : V}, plain d = true → Dt S H x d → Dp K H x d
  | .none, _, _, .non => .non
  | .bool _, _, _, .bl _ => .bl _
  | .int _, _, _, .int _ => .int _
  | .str _, _, _, .str _ => .str _
  | .list _, _, p, .lst e _ h => .lst (sqL e) (DtL.dp (by unfold plain at p; exact p) h)
  | .tuple _, _, p, .tup e h => .tup (sqT e) (DtL.dp (by unfold plain at p; exact p) h)
  | .dict _, _, p, _ => by unfold plain at p; cases p
theorem DtL.dp : ∀ {ds : List PyData} {xs : List V}, plains ds = true → DtL S H xs ds → DpAll K H xs ds
  | [], _, _, .nil => .nil
  | _ :: _, _, p, .cons h r => by
    unfold plains at p
    rw [Bool.and_eq_true] at p
    exact .cons (Dt.dp p.1 h) (DtL.dp p.2 r)
end
/-- the name of a piece of data's type -/
def isErr : List (PyData × PyData) → Bool
  | (.bool true, .str _) :: _ => true
  | _ => false
def isErrD : PyData → Bool
  | .dict ds => isErr ds
  | _ => false
def tyD : PyData → String
  | .none => "NoneType"
  | .bool _ => "bool"
  | .int _ => "int"
  | .str _ => "str"
  | .list _ => "list"
  | .tuple _ => "tuple"
  | .dict _ => "dict"
theorem Dt.ty {d : PyData} {x : V} (h : Dt S H x d) (ne : isErrD d = false) : TyX K H x (.type (tyD d)) := by
  cases h with
  | non => exact .base .non
  | bl b => exact .base (.bl b)
  | int i => exact .base (.int i)
  | str x => exact .base (.str x)
  | lst e n h => exact .base (.lst e)
  | tup e h => exact .base (.tup e)
  | dct e n h => exact .base (.dK e)
  | dtt e n h => exact .base (.dT e)
  | exc e => cases ne
  | exd e n q h => cases ne
/-- a list or a tuple of these -/
theorem Dt.seqL {ds : List PyData} {x : V} (h : Dt S H x (.list ds)) : ∃ a vs, x = .ref a ∧ H a = some (.lst vs) ∧ a ∉ S ∧ DtL S H vs ds := by
  cases h with
  | lst e n h => exact ⟨_, _, rfl, e, n, h⟩
theorem Dt.seqT {ds : List PyData} {x : V} (h : Dt S H x (.tuple ds)) : ∃ a vs, x = .ref a ∧ H a = some (.tup vs) ∧ DtL S H vs ds := by
  cases h with
  | tup e h => exact ⟨_, _, rfl, e, h⟩
end
end Fx
set_option Elab.async false
set_option linter.all false
set_option maxRecDepth 100000
set_option maxHeartbeats 2000000
namespace Fx
open PySem PySem.Spec PyProof.Rows L2 Kb
variable [Nm]
abbrev St := L2.St
theorem noNone {H : Hp} {a : Addr} {o : HO} {P : Prop} (e : H a = some o) (z : H a = none) : P := by rw [e] at z; cases z
theorem isSome {H : Hp} {a : Addr} {o : HO} (e : H a = some o) : H a ≠ none := fun z => noNone e z
theorem noTwo {H : Hp} {a : Addr} {o u : HO} {P : Prop} (e : H a = some o) (z : H a = some u) (n : o ≠ u) : P := by rw [e] at z; cases z; exact absurd rfl n
/-! ### the draw -/
/-- an equation that simp does not take for a definition -/
theorem nr {α : Sort u} {a b : α} (h : a = b) : a = b := h
structure Dw where
  wide : List Int
  cells : List Int
  rest : Int
  turn : Int
def drawKV (w c : Addr) (r t : Int) : List (Key × V) := [(.inr "wide", .ref w), (.inr "cells", .ref c), (.inr "rest", .int r), (.inr "turn", .int t)]
structure DrE (H : Hp) (d w c : Addr) (D : Dw) : Prop where
  dr : H d = some (.dK (drawKV w c D.rest D.turn))
  wi : H w = some (.lst (D.wide.map V.int))
  ce : H c = some (.lst (D.cells.map V.int))
  lw : D.wide.length ≤ 1000
  lc : D.cells.length ≤ 1000
  wc : w ≠ c
theorem DrE.dw {H : Hp} {d w c : Addr} {D : Dw} (h : DrE H d w c D) : d ≠ w ∧ d ≠ c :=
  ⟨fun z => noTwo h.dr (z ▸ h.wi) (fun q => by cases q), fun z => noTwo h.dr (z ▸ h.ce) (fun q => by cases q)⟩
theorem DrE.kp {H H' : Hp} {d w c : Addr} {D : Dw} (h : DrE H d w c D) {S : List Addr} (k : Kp S H H') (h1 : d ∉ S) (h2 : w ∉ S) (h3 : c ∉ S) : DrE H' d w c D :=
  ⟨k _ _ h.dr (.inr h1), k _ _ h.wi (.inr h2), k _ _ h.ce (.inr h3), h.lw, h.lc, h.wc⟩
/-! ### what a reading gives -/
inductive R (α : Type) where
  | stuck
  | ok (a : α) (D : Dw)
  | err (c : Str) (fs : List (PyData × PyData)) (D : Dw)
def R.bind {α β : Type} : R α → (α → Dw → R β) → R β
  | .stuck, _ => .stuck
  | .ok a D, f => f a D
  | .err c fs D, _ => .err c fs D
@[simp] theorem bind_ok {α β : Type} (a : α) (D : Dw) (f : α → Dw → R β) : (R.ok a D).bind f = f a D := nr rfl
@[simp] theorem bind_stuck {α β : Type} (f : α → Dw → R β) : (R.stuck : R α).bind f = .stuck := nr rfl
@[simp] theorem bind_err {α β : Type} (c : Str) (fs : List (PyData × PyData)) (D : Dw) (f : α → Dw → R β) : (R.err c fs D : R α).bind f = .err c fs D := nr rfl
def ofO {α : Type} (o : Option α) (D : Dw) : R α := match o with
  | some a => .ok a D
  | none => .stuck
@[simp] theorem ofO_some {α : Type} (a : α) (D : Dw) : ofO (some a) D = .ok a D := nr rfl
@[simp] theorem ofO_none {α : Type} (D : Dw) : ofO (none : Option α) D = .stuck := nr rfl
/-- what a name holds -/
inductive T where
  /-- data -/
  | d (x : PyData)
  /-- a list, a dict of the def's own -/
  | l (xs : List PyData)
  | m (kvs : List (PyData × PyData))
  | mt (kvs : List (PyData × PyData))
  /-- the draw; an opaque value; an error -/
  | w
  | fn (k : Nat)
  /-- the script -/
  | sc (ns : List Int)
  /-- a function that was made there, with the captured data -/
  | cl (cs : List PyData)
abbrev Env := List (Option T)
def view : T → Option PyData
  | .d x => some x
  | .l xs => some (.list xs)
  | .m kvs => some (.dict kvs)
  | .mt kvs => some (.dict (mark :: kvs))
  | _ => none
def own : T → Bool
  | .l _ => true
  | .m _ => true
  | .mt _ => true
  | _ => false
/-! ### the law's world, a frame's world -/
/-- a lambda that was made: its object, what it captured (names, cells, values), its code object -/
structure Lam where
  f : Addr
  c : Addr
  q : Str
  pr : Arguments
  bd : Expr
  sc : Scope
  cl : List (Str × Addr)
  vs : List V
def LmO (l : Lam) : HO := .ext fun h => ∃ pm ctv : Value, h.get? l.f = some (PySem.W.kla_obj "<lambda>" l.q l.pr l.bd l.sc l.cl pm l.c ctv)
structure Gt where
  K : PySem.W.Frag
  w : World
  mg : Str → Option Value
  /-- tables of code: of generator expressions; of lambdas, with their names -/
  Ts : List Addr
  Tq : List (Addr × Str)
  /-- values that are handed on and never looked at: functions, constants -/
  fv : Nat → V
  lam : Lam
def Gt.tabs (G : Gt) : List Addr := G.Ts ++ G.Tq.map (·.1)
structure TbOk (G : Gt) (H : Hp) : Prop where
  g : ∀ P ∈ G.Ts, GxR.TabG H P
  q : ∀ p ∈ G.Tq, LamX.TabS H p.1 p.2
theorem TbOk.tbl {G : Gt} {H : Hp} (h : TbOk G H) {P : Addr} (m : P ∈ G.tabs) : ∃ ps, H P = some (.tbl ps) := by
  rcases List.mem_append.mp m with m | m
  · obtain ⟨ps, e, _⟩ := h.g P m
    exact ⟨ps, e⟩
  · obtain ⟨p, m', rfl⟩ := List.mem_map.mp m
    obtain ⟨ps, e, _⟩ := h.q p m'
    exact ⟨ps, e⟩
structure Ct where
  G : Gt
  dr : Option (Addr × Addr × Addr)
  /-- what is not to be touched; the heap at the entry -/
  U : List Addr
  H0 : Hp
def Ct.dch (C : Ct) : List Addr := match C.dr with
  | some (d, w, _) => [d, w]
  | none => []
def Ct.ch (C : Ct) : List Addr := C.G.tabs ++ C.dch
def DrO (dr : Option (Addr × Addr × Addr)) (H : Hp) (D : Dw) : Prop := match dr with
  | some (d, w, c) => DrE H d w c D
  | none => True
/-- what a name holds, in memory -/
def Rt (C : Ct) (S : List Addr) (H : Hp) (v : V) : T → Prop
  | .d x => Dt S H v x
  | .l xs => ∃ a vs, v = .ref a ∧ H a = some (.lst vs) ∧ DtL S H vs xs ∧ a ∈ S ∧ a ∉ C.ch ∧ a ∉ C.U ∧ C.H0 a = none
  | .m kvs => ∃ a vs, v = .ref a ∧ H a = some (.dK vs) ∧ DtK S H vs kvs ∧ a ∈ S ∧ a ∉ C.ch ∧ a ∉ C.U ∧ C.H0 a = none
  | .mt kvs => ∃ a vs, v = .ref a ∧ H a = some (.dT vs) ∧ DtT S H vs kvs ∧ a ∈ S ∧ a ∉ C.ch ∧ a ∉ C.U ∧ C.H0 a = none
  | .w => ∃ d w c, C.dr = some (d, w, c) ∧ v = .ref d
  | .fn k => v = C.G.fv k
  | .sc ns => ∃ a, v = .ref a ∧ ((∃ o, H a = some (.frz o (.lst (ns.map V.int)))) ∨ (∀ H', SqL C.G.K H' a (ns.map V.int)) ∨ (a ∉ S ∧ H a = some (.lst (ns.map V.int))))
  | .cl cs => v = .ref C.G.lam.f ∧ H C.G.lam.f = some (LmO C.G.lam) ∧ H C.G.lam.c = some (LamX.CodeO C.G.lam.c C.G.lam.q) ∧ DtL S H C.G.lam.vs cs
structure Fm (C : Ct) (S : List Addr) (ρ : Env) (D : Dw) (σ : St) (H : Hp) : Prop where
  len : σ.length = ρ.length
  slot : ∀ (i : Nat) (t : T), ρ[i]? = some (some t) → ∃ v, σ[i]? = some (some v) ∧ Rt C S H v t
  uniq : ∀ (i j : Nat) (t u : T) (v : V), i ≠ j → ρ[i]? = some (some t) → ρ[j]? = some (some u) → own t = true → own u = true → σ[i]? = some (some v) → σ[j]? ≠ some (some v)
  base : ∀ a, a ∈ C.ch ∨ a ∈ C.U → a ∈ S
  dom : ∀ a ∈ S, H a ≠ none
  kp : Kp C.ch C.H0 H
  tb : TbOk C.G H
  dr : DrO C.dr H D
  drc : ∀ d w c, C.dr = some (d, w, c) → C.H0 c ≠ none
theorem Kp.dom {S : List Addr} {H H' : Hp} (k : Kp [] H H') {a : Addr} (h : H a ≠ none) : H' a ≠ none := by
  cases e : H a with
  | none => exact absurd e h
  | some o => rw [k a o e (.inr List.not_mem_nil)]; exact (fun z => by cases z)
theorem Rt.mk {C : Ct} {S S' : List Addr} {H H' : Hp} {v : V} {t : T} (h : Rt C S H v t) (k : Kp S H H') (hs : ∀ b ∈ S', b ∈ S ∨ H b = none) (ho : own t = true → ∀ a, v = .ref a → a ∈ S → a ∈ S' ∧ ∀ o, H a = some o → H' a = some o) : Rt C S' H' v t := by
  cases t with
  | d x => exact Dt.mk k hs h
  | l xs =>
    obtain ⟨a, vs, rfl, e, hd, m, r⟩ := h
    obtain ⟨m', e'⟩ := ho rfl a rfl m
    exact ⟨a, vs, rfl, e' _ e, hd.mk k hs, m', r⟩
  | m kvs =>
    obtain ⟨a, vs, rfl, e, hd, m, r⟩ := h
    obtain ⟨m', e'⟩ := ho rfl a rfl m
    exact ⟨a, vs, rfl, e' _ e, hd.mk k hs, m', r⟩
  | mt kvs =>
    obtain ⟨a, vs, rfl, e, hd, m, r⟩ := h
    obtain ⟨m', e'⟩ := ho rfl a rfl m
    exact ⟨a, vs, rfl, e' _ e, hd.mk k hs, m', r⟩
  | w => exact h
  | fn u => exact h
  | sc ns =>
    obtain ⟨a, rfl, h⟩ := h
    refine ⟨a, rfl, ?_⟩
    rcases h with ⟨o, e⟩ | e | ⟨n, e⟩
    · exact .inl ⟨o, k _ _ e (.inl rfl)⟩
    · exact .inr (.inl e)
    · exact .inr (.inr ⟨fun m => (hs _ m).elim n fun z => noNone e z, k _ _ e (.inr n)⟩)
  | cl cs =>
    obtain ⟨rfl, e1, e2, h⟩ := h
    exact ⟨rfl, k _ _ e1 (.inl rfl), k _ _ e2 (.inl rfl), h.mk k hs⟩
theorem TbOk.kp0 {G : Gt} {H H' : Hp} (h : TbOk G H) (k : Kp [] H H') : TbOk G H' := by
  refine ⟨fun P m => ?_, fun p m => ?_⟩
  · obtain ⟨ps, e, t⟩ := h.g P m
    exact ⟨ps, k _ _ e (.inr List.not_mem_nil), t⟩
  · obtain ⟨ps, e, t, q⟩ := h.q p m
    refine ⟨ps, k _ _ e (.inr List.not_mem_nil), t, fun pos cv z => ?_⟩
    obtain ⟨c, rfl, y⟩ := q pos cv z
    exact ⟨c, rfl, k _ _ y (.inr List.not_mem_nil)⟩
theorem DrO.kp0 {dr : Option (Addr × Addr × Addr)} {H H' : Hp} {D : Dw} (h : DrO dr H D) (k : Kp [] H H') : DrO dr H' D := by
  unfold DrO at *
  split at h
  · exact h.kp k List.not_mem_nil List.not_mem_nil List.not_mem_nil
  · trivial
section
variable {C : Ct} {S S' : List Addr} {ρ : Env} {D D' : Dw} {σ : St} {H H' : Hp}
/-- new things alone -/
theorem Fm.grow (F : Fm C S ρ D σ H) (k : Kp [] H H') : Fm C S ρ D σ H' where
  len := F.len
  slot := fun i t e => by
    obtain ⟨v, h1, h2⟩ := F.slot i t e
    exact ⟨v, h1, h2.mk k.of (fun _ m => .inl m) fun _ a _ m => ⟨m, fun o e => k a o e (.inr List.not_mem_nil)⟩⟩
  uniq := F.uniq
  base := F.base
  dom := fun a m => (k.dom (S := S)) (F.dom a m)
  kp := F.kp.trans k.of
  tb := F.tb.kp0 k
  dr := F.dr.kp0 k
  drc := F.drc
/-- a new thing that is to be one's own -/
theorem Fm.newS {p : Addr} {o : HO} (F : Fm C S ρ D σ H) (n : H p = none) : Fm C (p :: S) ρ D σ (upd H p o) where
  len := F.len
  slot := fun i t e => by
    obtain ⟨v, h1, h2⟩ := F.slot i t e
    refine ⟨v, h1, h2.mk (Kp.new n) (fun b m => (List.mem_cons.mp m).elim (fun e => .inr (e ▸ n)) .inl) fun _ a _ m => ⟨List.mem_cons_of_mem _ m, fun o' e' => ?_⟩⟩
    rw [upd_ne (ne_of_none e' n)]
    exact e'
  uniq := F.uniq
  base := fun a m => List.mem_cons_of_mem _ (F.base a m)
  dom := fun a m => by
    rcases List.mem_cons.mp m with rfl | m
    · rw [upd_same]; exact (fun z => by cases z)
    · exact (Kp.new (S := []) n).dom (S := S) (F.dom a m)
  kp := F.kp.trans (Kp.new n)
  tb := F.tb.kp0 (Kp.new n)
  dr := F.dr.kp0 (Kp.new n)
  drc := F.drc
theorem Fm.ch0 (F : Fm C S ρ D σ H) {a : Addr} (n : H a = none) : C.H0 a = none := by
  cases e : C.H0 a with
  | none => rfl
  | some o =>
    by_cases m : a ∈ C.ch
    · exact absurd n (F.dom a (F.base a (.inl m)))
    · rw [F.kp a o e (.inr m)] at n; cases n
/-- behind what changes tables and the draw alone -/
theorem Fm.after (F : Fm C S ρ D σ H) (k : Kp C.ch H H') (tb : TbOk C.G H') (dr : DrO C.dr H' D') : Fm C S ρ D' σ H' where
  len := F.len
  slot := fun i t e => by
    obtain ⟨v, h1, h2⟩ := F.slot i t e
    refine ⟨v, h1, h2.mk (k.mono fun b m => F.base b (.inl m)) (fun _ m => .inl m) fun o a ea m => ⟨m, fun ob e' => ?_⟩⟩
    have nch : a ∉ C.ch := by
      cases t with
      | l xs => obtain ⟨a', vs, e1, _, _, _, n, _⟩ := h2; rw [ea] at e1; cases e1; exact n
      | m xs => obtain ⟨a', vs, e1, _, _, _, n, _⟩ := h2; rw [ea] at e1; cases e1; exact n
      | mt xs => obtain ⟨a', vs, e1, _, _, _, n, _⟩ := h2; rw [ea] at e1; cases e1; exact n
      | _ => cases o
    exact k a ob e' (.inr nch)
  uniq := F.uniq
  base := F.base
  dom := fun a m => by
    by_cases mc : a ∈ C.ch
    · rcases List.mem_append.mp mc with z | z
      · obtain ⟨ps, e⟩ := tb.tbl z
        rw [e]; exact (fun z => by cases z)
      · unfold Ct.dch at z
        unfold DrO at dr
        split at z
        · rename_i d w c e
          rw [e] at dr
          simp only [List.mem_cons, List.not_mem_nil, or_false] at z
          rcases z with rfl | rfl
          · rw [dr.dr]; exact (fun z => by cases z)
          · rw [dr.wi]; exact (fun z => by cases z)
        · exact absurd z List.not_mem_nil
    · cases e : H a with
      | none => exact absurd e (F.dom a m)
      | some o => rw [k a o e (.inr mc)]; exact (fun z => by cases z)
  kp := F.kp.trans k
  tb := tb
  dr := dr
  drc := F.drc
/-- the draw stays where only tables change -/
theorem Fm.drT (F : Fm C S ρ D σ H) (k : Kp C.G.tabs H H') : DrO C.dr H' D := by
  have h := F.dr
  unfold DrO at *
  split at h
  · have off : ∀ {a : Addr} {o : HO}, H a = some o → (∀ ps, o ≠ .tbl ps) → a ∉ C.G.tabs := fun e n m => by
      obtain ⟨ps, e'⟩ := F.tb.tbl m
      rw [e] at e'; cases e'; exact n ps rfl
    exact h.kp k (off h.dr (fun _ z => by cases z)) (off h.wi (fun _ z => by cases z)) (off h.ce (fun _ z => by cases z))
  · trivial
end
/-! ### the judgements -/
abbrev EX := Env → Dw → R PyData
abbrev EA := Env → Dw → R (List PyData)
abbrev EB := Env → Dw → R Bool
/-- an error, behind it -/
def ErrR (C : Ct) (D : Dw) (H : Hp) (cls : Value) (dd : Option Addr) (c : Str) (fs : List (PyData × PyData)) : Prop :=
  Kp C.ch C.H0 H ∧ TbOk C.G H ∧ DrO C.dr H D ∧ cls = .ref (Nm.adr c) ∧ (dd = none ∧ fs = [] ∨ ∃ d kv, dd = some d ∧ C.H0 d = none ∧ H d = some (.xd kv) ∧ DtX (C.ch ++ C.U) H kv fs)
def ErrP (C : Ct) (E : XK) (D : Dw) (c : Str) (fs : List (PyData × PyData)) : Prop := ∀ H' cls dd, ErrR C D H' cls dd c fs → E cls dd H'
/-- tables, the draw, new things: all that an expression does -/
structure Kq (C : Ct) (S : List Addr) (H H' : Hp) : Prop where
  c : Kp C.ch H H'
  s : Kp S H H'
theorem Kq.refl {C : Ct} {S : List Addr} {H : Hp} : Kq C S H H := ⟨.refl, .refl⟩
theorem Kq.trans {C : Ct} {S : List Addr} {H H' H2 : Hp} (a : Kq C S H H') (b : Kq C S H' H2) : Kq C S H H2 := ⟨a.c.trans b.c, a.s.trans b.s⟩
theorem Kq.of {C : Ct} {S : List Addr} {H H' : Hp} (k : Kp [] H H') : Kq C S H H' := ⟨k.of, k.of⟩
theorem Kq.new {C : Ct} {S : List Addr} {H : Hp} {p : Addr} {o : HO} (n : H p = none) : Kq C S H (upd H p o) := .of (Kp.new n)
/-- how an expression's outcome is told to what follows -/
def PostE (C : Ct) (E : XK) (S : List Addr) (ρ : Env) (σ : St) (H : Hp) (P : V → Hp → PyData → Prop) (r : R PyData) (t : VK → Prop) : Prop := match r with
  | .stuck => True
  | .ok d D' => ∀ Q : VK, (∀ v H', Kq C S H H' → Fm C S ρ D' σ H' → P v H' d → Q v H') → t Q
  | .err c fs D' => ErrP C E D' c fs → ∀ Q, t Q
/-- a value that is data, or held by a name -/
def Bv (C : Ct) (S : List Addr) (ρ : Env) (σ : St) (H : Hp) (v : V) (d : PyData) : Prop := Dt S H v d ∨ ∃ (i : Nat) (t : T), σ[i]? = some (some v) ∧ ρ[i]? = some (some t) ∧ view t = some d
structure Xc {ι : Type} (X : ι → Cx) (C : Ct) : Prop where
  K : ∀ i, (X i).K = C.G.K
  w : ∀ i, (X i).w = C.G.w
  mg : ∀ i, (X i).mg = C.G.mg
structure VE {ι : Type} (X : ι → Cx) (C : Ct) (E : XK) (e : Expr) (f : EX) : Prop where
  ex : ∃ t, (∀ i, PE (X i) e t) ∧ ∀ S ρ D σ H, Fm C S ρ D σ H → PostE C E S ρ σ H (fun v H' d => Dt S H' v d) (f ρ D) (fun Q => t σ H Q)
structure VB {ι : Type} (X : ι → Cx) (C : Ct) (E : XK) (e : Expr) (f : EX) : Prop where
  ex : ∃ t, (∀ i, PE (X i) e t) ∧ ∀ S ρ D σ H, Fm C S ρ D σ H → PostE C E S ρ σ H (fun v H' d => Bv C S ρ σ H' v d) (f ρ D) (fun Q => t σ H Q)
/-- a new list -/
def Fresh (C : Ct) (S : List Addr) (ρ : Env) (D : Dw) (σ : St) (H H' : Hp) (v : V) (d : PyData) : Prop := ∃ p, v = .ref p ∧ H p = none ∧ Fm C (p :: S) ρ D σ H' ∧ ((∃ vs xs, d = .list xs ∧ H' p = some (.lst vs) ∧ DtL (p :: S) H' vs xs) ∨ (∃ vs xs, d = .dict xs ∧ H' p = some (.dK vs) ∧ DtK (p :: S) H' vs xs) ∨ (∃ vs xs, d = .dict (mark :: xs) ∧ H' p = some (.dT vs) ∧ DtT (p :: S) H' vs xs))
def PostF (C : Ct) (E : XK) (S : List Addr) (ρ : Env) (σ : St) (H : Hp) (r : R PyData) (t : VK → Prop) : Prop := match r with
  | .stuck => True
  | .ok d D' => ∀ Q : VK, (∀ v H', Kq C S H H' → Fm C S ρ D' σ H' → Fresh C S ρ D' σ H H' v d → Q v H') → t Q
  | .err c fs D' => ErrP C E D' c fs → ∀ Q, t Q
structure VF {ι : Type} (X : ι → Cx) (C : Ct) (E : XK) (e : Expr) (f : EX) : Prop where
  ex : ∃ t, (∀ i, PE (X i) e t) ∧ ∀ S ρ D σ H, Fm C S ρ D σ H → PostF C E S ρ σ H (f ρ D) (fun Q => t σ H Q)
section
variable {ι : Type} {X : ι → Cx} {C : Ct} {E : XK} {e : Expr} {f : EX}
theorem Fresh.dt {S : List Addr} {ρ : Env} {D D0 : Dw} {σ : St} {H H' : Hp} {v : V} {d : PyData} (F : Fm C S ρ D0 σ H) (h : Fresh C S ρ D σ H H' v d) : Dt S H' v d := by
  obtain ⟨p, rfl, n, _, h⟩ := h
  have np : p ∉ S := fun m => F.dom p m n
  have sub : ∀ b ∈ S, b ∈ p :: S := fun b m => List.mem_cons_of_mem _ m
  rcases h with ⟨vs, xs, rfl, e, h⟩ | ⟨vs, xs, rfl, e, h⟩ | ⟨vs, xs, rfl, e, h⟩
  · exact .lst e np (h.sub sub)
  · exact .dct e np (h.mk .refl fun _ m => .inl (sub _ m))
  · exact .dtt e np (h.mk .refl fun _ m => .inl (sub _ m))
theorem VF.ve (h : VF X C E e f) : VE X C E e f := by
  obtain ⟨t, h1, h2⟩ := h.ex
  refine ⟨t, h1, fun S ρ D σ H F => ?_⟩
  have := h2 S ρ D σ H F
  unfold PostF at this
  unfold PostE
  split
  · trivial
  · rename_i d D' q
    rw [q] at this
    exact fun Q hq => this Q fun v H' k F' fr => hq v H' k F' (fr.dt F)
  · rename_i c fs D' q
    rw [q] at this
    exact this
theorem PostE.imp {S : List Addr} {ρ : Env} {σ : St} {H : Hp} {P P' : V → Hp → PyData → Prop} {r : R PyData} {t : VK → Prop} (h : PostE C E S ρ σ H P r t) (i : ∀ v H' d, P v H' d → P' v H' d) : PostE C E S ρ σ H P' r t := by
  unfold PostE at *
  split
  · trivial
  · exact fun Q hq => h Q fun v H' k F p => hq v H' k F (i _ _ _ p)
  · exact h
theorem VE.b (h : VE X C E e f) : VB X C E e f := by
  obtain ⟨t, h1, h2⟩ := h.ex
  exact ⟨t, h1, fun S ρ D σ H F => (h2 S ρ D σ H F).imp fun _ _ _ p => .inl p⟩
theorem Bv.kp {S : List Addr} {ρ : Env} {σ : St} {H H' : Hp} {v : V} {d : PyData} (h : Bv C S ρ σ H v d) (k : Kp S H H') : Bv C S ρ σ H' v d := h.imp (fun h => h.kp k) id
/-- as seen -/
inductive Sn (S : List Addr) (H : Hp) : V → PyData → Prop
  | dt {v : V} {d : PyData} : Dt S H v d → Sn S H v d
  | l {a : Addr} {vs : List V} {xs : List PyData} : H a = some (.lst vs) → DtL S H vs xs → Sn S H (.ref a) (.list xs)
  | m {a : Addr} {vs : List (Key × V)} {xs : List (PyData × PyData)} : H a = some (.dK vs) → DtK S H vs xs → Sn S H (.ref a) (.dict xs)
  | mt {a : Addr} {vs : List (List Key × V)} {xs : List (PyData × PyData)} : H a = some (.dT vs) → DtT S H vs xs → Sn S H (.ref a) (.dict (mark :: xs))
theorem Bv.sn {S : List Addr} {ρ : Env} {D : Dw} {σ : St} {H : Hp} {v : V} {d : PyData} (h : Bv C S ρ σ H v d) (F : Fm C S ρ D σ H) : Sn S H v d := by
  rcases h with h | ⟨i, t, e1, e2, e3⟩
  · exact .dt h
  · obtain ⟨v', e4, h⟩ := F.slot i t e2
    rw [e1] at e4; cases e4
    cases t with
    | d x => cases e3; exact .dt h
    | l xs => cases e3; obtain ⟨a, vs, rfl, e, hd, _⟩ := h; exact .l e hd
    | m xs => cases e3; obtain ⟨a, vs, rfl, e, hd, _⟩ := h; exact .m e hd
    | mt xs => cases e3; obtain ⟨a, vs, rfl, e, hd, _⟩ := h; exact .mt e hd
    | _ => cases e3
end
end Fx
set_option Elab.async false
set_option linter.all false
set_option maxRecDepth 100000
set_option maxHeartbeats 2000000
namespace Fx
open PySem PySem.Spec PyProof.Rows L2 Kb
variable [Nm]
/-! ### one after another -/
section
variable {ι : Type} {X : ι → Cx} {C : Ct} {E : XK} {S : List Addr} {ρ : Env} {D : Dw} {σ : St} {H : Hp}
theorem PostE.bind {P P' : V → Hp → PyData → Prop} {r : R PyData} {ta : VK → Prop} {g : PyData → Dw → R PyData} {k : V → Hp → VK → Prop} (h : PostE C E S ρ σ H P r ta)
    (hk : ∀ d D1 x H1, Kq C S H H1 → Fm C S ρ D1 σ H1 → P x H1 d → PostE C E S ρ σ H1 P' (g d D1) (fun Q => k x H1 Q)) : PostE C E S ρ σ H P' (r.bind g) (fun Q => ta fun x H1 => k x H1 Q) := by
  cases r with
  | stuck => trivial
  | err c fs D1 => exact fun e Q => h e _
  | ok d D1 =>
    show PostE C E S ρ σ H P' (g d D1) _
    have key : ∀ Q, (∀ x H1, Kq C S H H1 → Fm C S ρ D1 σ H1 → P x H1 d → k x H1 Q) → ta fun x H1 => k x H1 Q := fun Q hq => h _ fun v H' a b c => hq v H' a b c
    generalize hg : g d D1 = r2
    cases r2 with
    | stuck => trivial
    | err c fs D2 =>
      refine fun e Q => key Q fun x H1 a b c => ?_
      have := hk d D1 x H1 a b c
      rw [hg] at this
      exact this e Q
    | ok d2 D2 =>
      refine fun Q hq => key Q fun x H1 a b c => ?_
      have := hk d D1 x H1 a b c
      rw [hg] at this
      exact this Q fun v H' a2 b2 c2 => hq v H' (a.trans a2) b2 c2
theorem up_none {H1 : Hp} {p : Addr} (F : Fm C S ρ D σ H) (k : Kp S H H1) (n : H1 p = none) (np : p ∉ S) : H p = none := by
  cases e : H p with
  | none => rfl
  | some o => exact noNone (k.there np e) n
theorem PostF.bind {P : V → Hp → PyData → Prop} {r : R PyData} {ta : VK → Prop} {g : PyData → Dw → R PyData} {k : V → Hp → VK → Prop} (F0 : Fm C S ρ D σ H) (h : PostE C E S ρ σ H P r ta)
    (hk : ∀ d D1 x H1, Kq C S H H1 → Fm C S ρ D1 σ H1 → P x H1 d → PostF C E S ρ σ H1 (g d D1) (fun Q => k x H1 Q)) : PostF C E S ρ σ H (r.bind g) (fun Q => ta fun x H1 => k x H1 Q) := by
  cases r with
  | stuck => trivial
  | err c fs D1 => exact fun e Q => h e _
  | ok d D1 =>
    show PostF C E S ρ σ H (g d D1) _
    have key : ∀ Q, (∀ x H1, Kq C S H H1 → Fm C S ρ D1 σ H1 → P x H1 d → k x H1 Q) → ta fun x H1 => k x H1 Q := fun Q hq => h _ fun v H' a b c => hq v H' a b c
    generalize hg : g d D1 = r2
    cases r2 with
    | stuck => trivial
    | err c fs D2 =>
      refine fun e Q => key Q fun x H1 a b c => ?_
      have := hk d D1 x H1 a b c
      rw [hg] at this
      exact this e Q
    | ok d2 D2 =>
      refine fun Q hq => key Q fun x H1 a b c => ?_
      have := hk d D1 x H1 a b c
      rw [hg] at this
      refine this Q fun v H' a2 b2 ⟨p, e1, n, e2, e3⟩ => hq v H' (a.trans a2) b2 ⟨p, e1, ?_, e2, e3⟩
      exact up_none F0 a.s n fun m => b.dom p m n
end
/-! ### names, constants -/
namespace Ev
def var (i : Nat) : EX := fun ρ D => match ρ[i]? with
  | some (some t) => ofO (view t) D
  | _ => .stuck
def dat (i : Nat) : EX := fun ρ D => match ρ[i]? with
  | some (some (.d x)) => .ok x D
  | _ => .stuck
def c (d : PyData) : EX := fun _ D => .ok d D
/-- one, two parts -/
def u1 (g : PyData → Option PyData) (a : EX) : EX := fun ρ D => (a ρ D).bind fun x D1 => ofO (g x) D1
def o2 (g : PyData → PyData → Option PyData) (a b : EX) : EX := fun ρ D => (a ρ D).bind fun x D1 => (b ρ D1).bind fun y D2 => ofO (g x y) D2
def ite (t : EX) (a b : EX) : EX := fun ρ D => (t ρ D).bind fun x D1 => match x with
  | .bool true => a ρ D1
  | .bool false => b ρ D1
  | _ => .stuck
/-- and, or of what is True or False -/
def and (a b : EX) : EX := ite a b (c (.bool false))
def or (a b : EX) : EX := ite a (c (.bool true)) b
def isMark : List (PyData × PyData) → Bool
  | (.bool true, .str _) :: _ => true
  | (.none, .none) :: _ => true
  | _ => false
/-- by truth: the value of the one or of the other -/
def truD : PyData → Option Bool
  | .none => some false
  | .bool b => some b
  | .int i => some (i != 0)
  | .str y => if y.length ≤ sizeLine then some ((y.length : Int) != 0) else Option.none
  | .list xs => some (!xs.isEmpty)
  | .tuple xs => some (!xs.isEmpty)
  | .dict kvs => if isMark kvs then Option.none else some (!kvs.isEmpty)
def truth (a : EX) : EX := u1 (fun x => (truD x).map .bool) a
end Ev
section
variable {ι : Type} {X : ι → Cx} {C : Ct} {E : XK}
theorem vb_var (i : Nat) {x : Str} {pos : Pos} (h : ∀ i_, PE (X i_) (.Name x pos) (tVar i)) : VB X C E (.Name x pos) (Ev.var i) := by
  refine ⟨_, h, fun S ρ D σ H F => ?_⟩
  unfold Ev.var
  split
  · rename_i t e
    obtain ⟨v, e1, _⟩ := F.slot i t e
    cases hv : view t with
    | none => trivial
    | some d => exact fun Q hq => ⟨v, e1, hq v H .refl F (.inr ⟨i, t, e1, e, hv⟩)⟩
  · trivial
theorem ve_var (i : Nat) {x : Str} {pos : Pos} (h : ∀ i_, PE (X i_) (.Name x pos) (tVar i)) : VE X C E (.Name x pos) (Ev.dat i) := by
  refine ⟨_, h, fun S ρ D σ H F => ?_⟩
  unfold Ev.dat
  split
  · rename_i t e
    obtain ⟨v, e1, h1⟩ := F.slot i _ e
    exact fun Q hq => ⟨v, e1, hq v H .refl F h1⟩
  · trivial
theorem ve_const {e : Expr} {v : V} {d : PyData} (h : ∀ i_, PE (X i_) e (tC v)) (hd : ∀ S H, Dt S H v d) : VE X C E e (Ev.c d) :=
  ⟨_, h, fun S ρ D σ H F Q hq => hq v H .refl F (hd S H)⟩
theorem ve_int {i j pos} : VE X C E (.Constant (.int i) j pos) (Ev.c (.int i)) := ve_const (fun _ => pe_int) fun _ _ => .int i
theorem ve_bl {b j pos} : VE X C E (.Constant (.bool b) j pos) (Ev.c (.bool b)) := ve_const (fun _ => pe_bl) fun _ _ => .bl b
theorem ve_non {j pos} : VE X C E (.Constant .none j pos) (Ev.c .none) := ve_const (fun _ => pe_non) fun _ _ => .non
theorem ve_str {x j pos} : VE X C E (.Constant (.str x) j pos) (Ev.c (.str x)) := ve_const (fun _ => pe_str) fun _ _ => .str x
/-! ### by values -/
/-- an operation of two, one: what it gives is data -/
def DOp2 (C : Ct) (r : R2) (g : PyData → PyData → Option PyData) : Prop := ∀ S H x y d e res, Sn S H x d → Sn S H y e → (∀ a ∈ S, H a ≠ none) → g d e = some res →
  ∀ Q : VK, (∀ v H', Kp [] H H' → Dt S H' v res → Q v H') → r x y H Q
def DOp1 (C : Ct) (r : V → Hp → VK → Prop) (g : PyData → Option PyData) : Prop := ∀ S H x d res, Sn S H x d → (∀ a ∈ S, H a ≠ none) → g d = some res →
  ∀ Q : VK, (∀ v H', Kp [] H H' → Dt S H' v res → Q v H') → r x H Q
theorem ofO_post {S : List Addr} {ρ : Env} {D : Dw} {σ : St} {H : Hp} {o : Option PyData} {k : VK → Prop} (F : Fm C S ρ D σ H)
    (h : ∀ res, o = some res → ∀ Q : VK, (∀ v H', Kp [] H H' → Dt S H' v res → Q v H') → k Q) : PostE C E S ρ σ H (fun v H' d => Dt S H' v d) (ofO o D) k := by
  cases o with
  | none => trivial
  | some res => exact fun Q hq => h res rfl Q fun v H' kk hd => hq v H' (.of kk) (F.grow kk) hd
/-- a reading does what is said -/
abbrev RdE (C : Ct) (E : XK) (t : TE) (f : EX) : Prop := ∀ S ρ D σ H, Fm C S ρ D σ H → PostE C E S ρ σ H (fun v H' d => Dt S H' v d) (f ρ D) (fun Q => t σ H Q)
abbrev RdB (C : Ct) (E : XK) (t : TE) (f : EX) : Prop := ∀ S ρ D σ H, Fm C S ρ D σ H → PostE C E S ρ σ H (fun v H' d => Bv C S ρ σ H' v d) (f ρ D) (fun Q => t σ H Q)
theorem rd_o2 {ta tb : TE} {r : R2} {g : PyData → PyData → Option PyData} {fa fb : EX} (hg : DOp2 C r g) (qa : RdB C E ta fa) (qb : RdB C E tb fb) : RdE C E (tOp r ta tb) (Ev.o2 g fa fb) := by
  intro S ρ D σ H F
  show PostE C E S ρ σ H _ _ (fun Q => ta σ H fun x H1 => tb σ H1 fun y H2 => r x y H2 Q)
  refine PostE.bind (qa S ρ D σ H F) fun d D1 x H1 k1 F1 h1 => ?_
  refine PostE.bind (qb S ρ D1 σ H1 F1) fun d2 D2 y H2 k2 F2 h2 => ?_
  exact ofO_post F2 fun res e Q hq => hg S H2 x y d d2 res ((h1.kp k2.s).sn F2) (h2.sn F2) F2.dom e Q hq
theorem ve_o2 {e1 e2 e : Expr} {r : R2} {g : PyData → PyData → Option PyData} {fa fb : EX} (hp : ∀ i_ ta tb, PE (X i_) e1 ta → PE (X i_) e2 tb → PE (X i_) e (tOp r ta tb)) (hg : DOp2 C r g) (ha : VB X C E e1 fa) (hb : VB X C E e2 fb) : VE X C E e (Ev.o2 g fa fb) := by
  obtain ⟨ta, pa, qa⟩ := ha.ex
  obtain ⟨tb, pb, qb⟩ := hb.ex
  exact ⟨_, (fun i_ => hp i_ ta tb (pa i_) (pb i_)), rd_o2 hg qa qb⟩
theorem ve_u1 {e1 e : Expr} {r : V → Hp → VK → Prop} {g : PyData → Option PyData} {fa : EX} (hp : ∀ i_ ta, PE (X i_) e1 ta → PE (X i_) e (fun σ H Q => ta σ H fun x H1 => r x H1 Q)) (hg : DOp1 C r g) (ha : VB X C E e1 fa) : VE X C E e (Ev.u1 g fa) := by
  obtain ⟨ta, pa, qa⟩ := ha.ex
  refine ⟨_, (fun i_ => hp i_ ta (pa i_)), fun S ρ D σ H F => ?_⟩
  refine PostE.bind (qa S ρ D σ H F) fun d D1 x H1 k1 F1 h1 => ?_
  exact ofO_post F1 fun res e Q hq => hg S H1 x d res (h1.sn F1) F1.dom e Q hq
theorem ve_bin {a b : Expr} {op : Operator} {pos : Pos} {r : R2} {g : PyData → PyData → Option PyData} {fa fb : EX} (ho : ∀ i, OpR (X i) (binaryOp op) r) (hg : DOp2 C r g) (ha : VB X C E a fa) (hb : VB X C E b fb) : VE X C E (.BinOp a op b pos) (Ev.o2 g fa fb) :=
  ve_o2 (fun i _ _ pa pb => pe_op (ho i) pa pb) hg ha hb
theorem ve_cmp {a b : Expr} {op : CmpOp} {pos : Pos} {r : R2} {g : PyData → PyData → Option PyData} {fa fb : EX} (ho : ∀ i, OpR (X i) (compareOp op) r) (hg : DOp2 C r g) (ha : VB X C E a fa) (hb : VB X C E b fb) (hm : behindInMarks op b = false) : VE X C E (.Compare a [op] [b] pos) (Ev.o2 g fa fb) :=
  ve_o2 (fun i _ _ pa pb => pe_cmpR (ho i) pa pb hm) hg ha hb
theorem DOp2.or {r r' : R2} {g g' : PyData → PyData → Option PyData} (h : DOp2 C r g) (h' : DOp2 C r' g') : DOp2 C (fun x y H Q => r x y H Q ∨ r' x y H Q) (fun d e => (g d e).orElse fun _ => g' d e) := by
  intro S H x y d e res hx hy hS hr Q hq
  dsimp only at hr
  cases q : g d e with
  | some z =>
    rw [q] at hr
    exact .inl (h S H x y d e res hx hy hS (q.trans hr) Q hq)
  | none =>
    rw [q] at hr
    exact .inr (h' S H x y d e res hx hy hS hr Q hq)
/-! what is seen -/
section
variable {K : PySem.W.Frag} {S : List Addr} {H : Hp} {v : V}
theorem Sn.int_inv {i : Int} (h : Sn S H v (.int i)) : v = .int i := by cases h with | dt h => exact h.int_inv
theorem Sn.str_inv {z : Str} (h : Sn S H v (.str z)) : v = .str z := by cases h with | dt h => exact h.str_inv
theorem Sn.bl_inv {b : Bool} (h : Sn S H v (.bool b)) : v = .bl b := by cases h with | dt h => exact h.bl_inv
theorem Sn.non_inv (h : Sn S H v .none) : v = .non := by cases h with | dt h => exact h.non_inv
theorem Sn.lst_inv {ds : List PyData} (h : Sn S H v (.list ds)) : ∃ a vs, v = .ref a ∧ H a = some (.lst vs) ∧ DtL S H vs ds := by
  cases h with
  | dt h => obtain ⟨a, vs, rfl, e, _, h⟩ := h.seqL; exact ⟨a, vs, rfl, e, h⟩
  | l e h => exact ⟨_, _, rfl, e, h⟩
theorem Sn.tup_inv {ds : List PyData} (h : Sn S H v (.tuple ds)) : ∃ a vs, v = .ref a ∧ H a = some (.tup vs) ∧ DtL S H vs ds := by
  cases h with
  | dt h => exact h.seqT
theorem Sn.ty {d : PyData} (h : Sn S H v d) (ne : isErrD d = false) : TyX K H v (.type (tyD d)) := by
  cases h with
  | dt h => exact h.ty ne
  | l e h => exact .base (.lst e)
  | m e h => exact .base (.dK e)
  | mt e h => exact .base (.dT e)
theorem Sn.dp {d : PyData} (h : Sn S H v d) (p : plain d = true) : Dp K H v d := by
  cases h with
  | dt h => exact h.dp p
  | l e h => exact .lst (sqL e) (DtL.dp (by unfold plain at p; exact p) h)
  | m e h => unfold plain at p; cases p
  | mt e h => unfold plain at p; cases p
end
/-! ### arithmetic -/
def gI (f : Int → Int → Option PyData) : PyData → PyData → Option PyData
  | .int i, .int j => f i j
  | _, _ => none
theorem dI {r : R2} {f : Int → Int → Option PyData} (h : ∀ i j res H Q, f i j = some res → (∀ v, (∀ S H', Dt S H' v res) → Q v H) → r (.int i) (.int j) H Q) : DOp2 C r (gI f) := by
  intro S H x y d e res hx hy hS hr Q hq
  unfold gI at hr
  split at hr
  · rw [hx.int_inv, hy.int_inv]
    exact h _ _ _ _ _ hr fun v hv => hq v H .refl (hv S H)
  · cases hr
theorem d_add : DOp2 C (rI0 fun i j => .int (i + j)) (gI fun i j => some (.int (i + j))) := dI fun i j res H Q e q => ⟨i, j, rfl, rfl, q _ fun _ _ => Option.some.inj e ▸ .int _⟩
theorem d_sub : DOp2 C (rI0 fun i j => .int (i - j)) (gI fun i j => some (.int (i - j))) := dI fun i j res H Q e q => ⟨i, j, rfl, rfl, q _ fun _ _ => Option.some.inj e ▸ .int _⟩
def small64 (i : Int) : Bool := decide (-(2 ^ 64) < i) && decide (i < 2 ^ 64)
theorem small64_iff {i : Int} (h : small64 i = true) : -(2 ^ 64) < i ∧ i < 2 ^ 64 := by
  unfold small64 at h
  simpa using h
def gMul (i j : Int) : Option PyData := if small64 i || small64 j then some (.int (i * j)) else none
def gDiv (i j : Int) : Option PyData := if 0 < j ∧ j < 1073741824 then some (.int (i / j)) else none
def gMod (i j : Int) : Option PyData := if 0 < j then some (.int (i % j)) else none
def gPow (i j : Int) : Option PyData := if 0 ≤ j ∧ j ≤ 1000000 ∧ i.natAbs < 2 ^ 64 then some (.int (i ^ j.toNat)) else none
theorem d_mul : DOp2 C (rI CMul fun i j => .int (i * j)) (gI gMul) := dI fun i j res H Q e q => by
  unfold gMul at e
  split at e
  · rename_i h
    cases e
    refine ⟨i, j, rfl, rfl, ?_, q _ fun _ _ => .int _⟩
    rcases Bool.or_eq_true_iff.mp h with h | h
    · exact .inl (small64_iff h)
    · exact .inr (small64_iff h)
  · cases e
theorem d_div : DOp2 C (rI CDiv fun i j => .int (i / j)) (gI gDiv) := dI fun i j res H Q e q => by
  unfold gDiv at e
  split at e
  · rename_i h
    cases e
    exact ⟨i, j, rfl, rfl, h, q _ fun _ _ => .int _⟩
  · cases e
theorem d_mod : DOp2 C (rI (fun _ j => 0 < j) fun i j => .int (i % j)) (gI gMod) := dI fun i j res H Q e q => by
  unfold gMod at e
  split at e
  · rename_i h
    cases e
    exact ⟨i, j, rfl, rfl, h, q _ fun _ _ => .int _⟩
  · cases e
theorem d_pow : DOp2 C (rI CPow fun i j => .int (i ^ j.toNat)) (gI gPow) := dI fun i j res H Q e q => by
  unfold gPow at e
  split at e
  · rename_i h
    cases e
    exact ⟨i, j, rfl, rfl, h, q _ fun _ _ => .int _⟩
  · cases e
/-- texts, tuples, lists put together -/
def gCat : PyData → PyData → Option PyData
  | .str x, .str y => if x.length + y.length ≤ sizeLine then some (.str (x ++ y)) else none
  | .tuple xs, .tuple ys => if xs.length + ys.length ≤ sizeLine then some (.tuple (xs ++ ys)) else none
  | .list xs, .list ys => if xs.length + ys.length ≤ sizeLine then some (.list (xs ++ ys)) else none
  | _, _ => none
def rCatU (K : PySem.W.Frag) : R2 := fun x y H Q => (∃ i j, x = .str i ∧ y = .str j ∧ i.length + j.length ≤ sizeLine ∧ Q (.str (i ++ j)) H) ∨ rCatA K x y H Q ∨ rCat x y H Q
theorem op_catU {X : Cx} : OpR X (binaryOp .Add) (rCatU X.K) := op_add_str.or (op_catA.or op_cat)
theorem d_cat : DOp2 C (rCatU C.G.K) gCat := by
  intro S H x y d e res hx hy hS hr Q hq
  unfold gCat at hr
  split at hr
  · split at hr
    · rename_i h
      cases hr
      rw [hx.str_inv, hy.str_inv]
      exact .inl ⟨_, _, rfl, rfl, h, hq _ _ .refl (.str _)⟩
    · cases hr
  · split at hr
    · rename_i h
      cases hr
      obtain ⟨a, vs, rfl, ea, ha⟩ := hx.tup_inv
      obtain ⟨b, us, rfl, eb, hb⟩ := hy.tup_inv
      have l1 := ha.len
      have l2 := hb.len
      refine .inr (.inl ⟨a, b, vs, us, rfl, rfl, sqT ea, sqT eb, by rw [l1, l2]; exact h, fun z => ?_, fun _ z => ?_, fun _ _ p n => ?_⟩)
      · subst z
        cases ha
        cases hy with | dt hy => exact hq _ _ .refl hy
      · subst z
        cases hb
        rw [List.append_nil] at hq
        cases hx with | dt hx => exact hq _ _ .refl hx
      · exact hq _ _ (Kp.new n) (.tup upd_same ((ha.app hb).kp (Kp.new n)))
    · cases hr
  · split at hr
    · rename_i h
      cases hr
      obtain ⟨a, vs, rfl, ea, ha⟩ := hx.lst_inv
      obtain ⟨b, us, rfl, eb, hb⟩ := hy.lst_inv
      have l1 := ha.len
      have l2 := hb.len
      exact .inr (.inr ⟨a, b, vs, us, rfl, rfl, ea, eb, by rw [l1, l2]; exact h, fun p n => hq _ _ (Kp.new n) (.lst upd_same (fun m => hS p m n) ((ha.app hb).kp (Kp.new n)))⟩)
    · cases hr
  · cases hr
/-- + of any two -/
def gAdd : PyData → PyData → Option PyData := fun d e => (gI (fun i j => some (.int (i + j))) d e).orElse fun _ => gCat d e
theorem ve_add {a b : Expr} {pos : Pos} {fa fb : EX} (hc : Xc X C) (ha : VB X C E a fa) (hb : VB X C E b fb) : VE X C E (.BinOp a .Add b pos) (Ev.o2 gAdd fa fb) :=
  ve_bin (fun i => by have := (op_add (X := X i)).or (op_catU (X := X i)); rw [hc.K i] at this; exact this) (d_add.or d_cat) ha hb
theorem ve_sub {a b : Expr} {pos : Pos} {fa fb : EX} (ha : VB X C E a fa) (hb : VB X C E b fb) : VE X C E (.BinOp a .Sub b pos) (Ev.o2 (gI fun i j => some (.int (i - j))) fa fb) := ve_bin (fun _ => op_sub) d_sub ha hb
theorem ve_mul {a b : Expr} {pos : Pos} {fa fb : EX} (ha : VB X C E a fa) (hb : VB X C E b fb) : VE X C E (.BinOp a .Mult b pos) (Ev.o2 (gI gMul) fa fb) := ve_bin (fun _ => op_mul) d_mul ha hb
theorem ve_div {a b : Expr} {pos : Pos} {fa fb : EX} (ha : VB X C E a fa) (hb : VB X C E b fb) : VE X C E (.BinOp a .FloorDiv b pos) (Ev.o2 (gI gDiv) fa fb) := ve_bin (fun _ => op_fdiv) d_div ha hb
theorem ve_mod {a b : Expr} {pos : Pos} {fa fb : EX} (ha : VB X C E a fa) (hb : VB X C E b fb) : VE X C E (.BinOp a .Mod b pos) (Ev.o2 (gI gMod) fa fb) := ve_bin (fun _ => op_mod) d_mod ha hb
theorem ve_pow {a b : Expr} {pos : Pos} {fa fb : EX} (ha : VB X C E a fa) (hb : VB X C E b fb) : VE X C E (.BinOp a .Pow b pos) (Ev.o2 (gI gPow) fa fb) := ve_bin (fun _ => op_pow) d_pow ha hb
def gNeg : PyData → Option PyData
  | .int i => some (.int (-i))
  | _ => none
theorem d_neg : DOp1 C (rU fun i => .int (-i)) gNeg := by
  intro S H x d res hx hS hr Q hq
  unfold gNeg at hr
  split at hr
  · cases hr
    rw [hx.int_inv]
    exact ⟨_, rfl, hq _ _ .refl (.int _)⟩
  · cases hr
theorem ve_neg {a : Expr} {pos : Pos} {fa : EX} (ha : VB X C E a fa) : VE X C E (.UnaryOp .USub a pos) (Ev.u1 gNeg fa) := ve_u1 (fun _ _ p => pe_un un_neg p) d_neg ha
end
end Fx
set_option Elab.async false
set_option linter.all false
set_option maxRecDepth 100000
set_option maxHeartbeats 2000000
namespace Fx
open PySem PySem.Spec PyProof.Rows L2 Kb
variable [Nm]
section
variable {ι : Type} {X : ι → Cx} {C : Ct} {E : XK}
/-! ### comparisons -/
def gEq (d e : PyData) : Option PyData := if SeqAt.shaped d && SeqAt.shaped e then some (.bool (PyData.eqv d e)) else none
def gNe (d e : PyData) : Option PyData := if SeqAt.shaped d && SeqAt.shaped e then some (.bool (!PyData.eqv d e)) else none
theorem shaped_plain {d : PyData} (h : SeqAt.shaped d = true) : plain d = true := plain_lay (SeqAt.canLay_of_shaped h)
theorem d_eq : DOp2 C (rEqD C.G.K) gEq := by
  intro S H x y d e res hx hy hS hr Q hq
  unfold gEq at hr
  split at hr
  · rename_i h
    rw [Bool.and_eq_true] at h
    cases hr
    exact ⟨d, e, hx.dp (shaped_plain h.1), hy.dp (shaped_plain h.2), h.1, h.2, hq _ _ .refl (.bl _)⟩
  · cases hr
theorem d_ne : DOp2 C (rNeD C.G.K) gNe := by
  intro S H x y d e res hx hy hS hr Q hq
  unfold gNe at hr
  split at hr
  · rename_i h
    rw [Bool.and_eq_true] at h
    cases hr
    exact ⟨d, e, hx.dp (shaped_plain h.1), hy.dp (shaped_plain h.2), h.1, h.2, hq _ _ .refl (.bl _)⟩
  · cases hr
def intsOf : List PyData → Option (List Int)
  | [] => some []
  | .int i :: r => (intsOf r).map (i :: ·)
  | _ :: _ => none
theorem intsOf_eq : ∀ {ds : List PyData} {ns : List Int}, intsOf ds = some ns → ds = ns.map PyData.int
  | [], ns, h => by cases h; rfl
  | .int i :: r, ns, h => by
    unfold intsOf at h
    cases q : intsOf r with
    | none => rw [q] at h; cases h
    | some m => rw [q] at h; cases h; rw [intsOf_eq q]; rfl
  | .none :: _, _, h => by cases h
  | .bool _ :: _, _, h => by cases h
  | .str _ :: _, _, h => by cases h
  | .list _ :: _, _, h => by cases h
  | .tuple _ :: _, _, h => by cases h
  | .dict _ :: _, _, h => by cases h
theorem intsOf_map : ∀ ns : List Int, intsOf (ns.map PyData.int) = some ns
  | [] => rfl
  | i :: r => by
    show (intsOf (r.map PyData.int)).map (i :: ·) = _
    rw [intsOf_map r]; rfl
def gLt : PyData → PyData → Option PyData
  | .int i, .int j => some (.bool (decide (i < j)))
  | .str x, .str y => some (.bool (decide (x.cps.toList < y.cps.toList)))
  | .tuple xs, .tuple ys => match intsOf xs, intsOf ys with
    | some ns, some ms => some (.bool (HT.lexLt ns ms))
    | _, _ => none
  | _, _ => none
def rLtU (K : PySem.W.Frag) : R2 := fun x y H Q => rI0 (fun i j => .bl (decide (i < j))) x y H Q ∨ (∃ i j, x = .str i ∧ y = .str j ∧ Q (.bl (decide (i.cps.toList < j.cps.toList))) H) ∨ rLtT K x y H Q
theorem op_ltU {X : Cx} (hu : X.A.units < cLine) : OpR X (compareOp .Lt) (rLtU X.K) := op_lt.or (op_lt_str.or (op_ltT hu))
theorem d_lt : DOp2 C (rLtU C.G.K) gLt := by
  intro S H x y d e res hx hy hS hr Q hq
  unfold gLt at hr
  split at hr
  · cases hr
    rw [hx.int_inv, hy.int_inv]
    exact .inl ⟨_, _, rfl, rfl, hq _ _ .refl (.bl _)⟩
  · cases hr
    rw [hx.str_inv, hy.str_inv]
    exact .inr (.inl ⟨_, _, rfl, rfl, hq _ _ .refl (.bl _)⟩)
  · split at hr
    · rename_i e1 e2
      cases hr
      rw [intsOf_eq e1] at hx
      rw [intsOf_eq e2] at hy
      obtain ⟨a, vs, rfl, ea, ha⟩ := hx.tup_inv
      obtain ⟨b, us, rfl, eb, hb⟩ := hy.tup_inv
      rw [ha.int_inv] at ea
      rw [hb.int_inv] at eb
      exact .inr (.inr ⟨a, b, _, _, rfl, rfl, sqT ea, sqT eb, hq _ _ .refl (.bl _)⟩)
    · cases hr
  · cases hr
def gB (f : Int → Int → Bool) : PyData → PyData → Option PyData := gI fun i j => some (.bool (f i j))
theorem d_B {f : Int → Int → Bool} : DOp2 C (rI0 fun i j => .bl (f i j)) (gB f) := dI fun i j res H Q e q => ⟨i, j, rfl, rfl, q _ fun _ _ => Option.some.inj e ▸ .bl _⟩
def isNoneD : PyData → Bool
  | .none => true
  | _ => false
def isBlD (b : Bool) : PyData → Bool
  | .bool a => a == b
  | _ => false
def gIsNone : PyData → PyData → Option PyData
  | d, .none => some (.bool (isNoneD d))
  | _, _ => none
def gNotNone : PyData → PyData → Option PyData
  | d, .none => some (.bool (!isNoneD d))
  | _, _ => none
theorem Sn.nonD {S : List Addr} {H : Hp} {v : V} {d : PyData} (h : Sn S H v d) : decide (v = .non) = isNoneD d := by
  cases h with
  | dt h => cases h <;> first | rfl | exact decide_eq_false (fun z => by cases z) | exact decide_eq_true rfl
  | _ => exact decide_eq_false (fun z => by cases z)
theorem d_isN : DOp2 C (fun x y H Q => y = .non ∧ Q (.bl (decide (x = .non))) H) gIsNone := by
  intro S H x y d e res hx hy hS hr Q hq
  unfold gIsNone at hr
  split at hr
  · cases hr
    refine ⟨hy.non_inv, ?_⟩
    rw [hx.nonD]
    exact hq _ _ .refl (.bl _)
  · cases hr
theorem d_notN : DOp2 C (fun x y H Q => y = .non ∧ Q (.bl (!decide (x = .non))) H) gNotNone := by
  intro S H x y d e res hx hy hS hr Q hq
  unfold gNotNone at hr
  split at hr
  · cases hr
    refine ⟨hy.non_inv, ?_⟩
    rw [hx.nonD]
    exact hq _ _ .refl (.bl _)
  · cases hr
/-- x is True, x is False -/
def gIsB : PyData → PyData → Option PyData
  | d, .bool b => some (.bool (isBlD b d))
  | _, _ => none
theorem d_isB : DOp2 C KbIs.rIsBo gIsB := by
  intro S H x y d e res hx hy hS hr Q hq
  unfold gIsB at hr
  split at hr
  · rename_i b
    cases hr
    have e1 : decide (x = .bl b) = isBlD b d := by
      cases hx with
      | dt h =>
        cases h with
        | bl a => cases a <;> cases b <;> rfl
        | _ => exact decide_eq_false (fun z => by cases z)
      | _ => exact decide_eq_false (fun z => by cases z)
    refine ⟨b, hy.bl_inv, ?_, ?_⟩
    · cases hx with
      | dt h => cases h <;> trivial
      | _ => trivial
    · rw [e1]
      exact hq _ _ .refl (.bl _)
  · cases hr
theorem d_gt : DOp2 C (rI0 fun i j => .bl (decide (j < i))) (gB fun i j => decide (j < i)) := d_B
theorem d_le : DOp2 C (rI0 fun i j => .bl (decide (i ≤ j))) (gB fun i j => decide (i ≤ j)) := d_B
theorem d_ge : DOp2 C (rI0 fun i j => .bl (decide (j ≤ i))) (gB fun i j => decide (j ≤ i)) := d_B
/-! ### dicts with plain keys -/
def toKey : PyData → Option Key
  | .int i => some (.inl i)
  | .str x => some (.inr x)
  | _ => none
theorem toKey_key : ∀ k : Key, toKey (keyD k) = some k
  | .inl _ => rfl
  | .inr _ => rfl
theorem toKey_inv {d : PyData} {k : Key} (h : toKey d = some k) : d = keyD k := by
  cases d <;> simp [toKey] at h <;> subst h <;> rfl
def dlook (ds : List (PyData × PyData)) (k : Key) : Option PyData := (ds.find? fun p => decide (toKey p.1 = some k)).map (·.2)
theorem DtK.look {S : List Addr} {H : Hp} (k : Key) : ∀ {kvs : List (Key × V)} {ds : List (PyData × PyData)}, DtK S H kvs ds →
    (valV kvs k = none ∧ dlook ds k = none) ∨ ∃ v d, valV kvs k = some v ∧ dlook ds k = some d ∧ Dt S H v d
  | _, _, .nil => .inl ⟨rfl, rfl⟩
  | _, _, .cons (k := j) (v := v) (d := d) h r => by
    unfold valV dlook
    rw [List.find?_cons, List.find?_cons]
    by_cases e : j = k
    · subst e
      rw [decide_eq_true rfl, decide_eq_true (toKey_key j)]
      exact .inr ⟨v, d, rfl, rfl, h⟩
    · rw [decide_eq_false e, decide_eq_false (fun z => e (Option.some.inj ((toKey_key j).symm.trans z)))]
      exact DtK.look k r
theorem Sn.key {S : List Addr} {H : Hp} {v : V} {d : PyData} {k : Key} (h : Sn S H v d) (e : toKey d = some k) : v = kV k := by
  rw [toKey_inv e] at h
  cases k with
  | inl i => exact h.int_inv
  | inr x => exact h.str_inv
/-- keys of this kind alone -/
def isK (ds : List (PyData × PyData)) : Bool := ds.all fun p => (toKey p.1).isSome
theorem Sn.dct_inv {S : List Addr} {H : Hp} {v : V} {ds : List (PyData × PyData)} (h : Sn S H v (.dict ds)) :
    ∃ a, v = .ref a ∧ ((∃ kvs, H a = some (.dK kvs) ∧ DtK S H kvs ds) ∨ (∃ kvs r, ds = mark :: r ∧ H a = some (.dT kvs) ∧ DtT S H kvs r) ∨ ∃ c r, ds = (.bool true, .str c) :: r) := by
  cases h with
  | dt h =>
    cases h with
    | dct e n h => exact ⟨_, rfl, .inl ⟨_, e, h⟩⟩
    | dtt e n h => exact ⟨_, rfl, .inr (.inl ⟨_, _, rfl, e, h⟩)⟩
    | exc e => exact ⟨_, rfl, .inr (.inr ⟨_, _, rfl⟩)⟩
    | exd e n q h => exact ⟨_, rfl, .inr (.inr ⟨_, _, rfl⟩)⟩
  | m e h => exact ⟨_, rfl, .inl ⟨_, e, h⟩⟩
  | mt e h => exact ⟨_, rfl, .inr (.inl ⟨_, _, rfl, e, h⟩)⟩
/-- keys that are tuples -/
def keysOf : List PyData → Option (List Key)
  | [] => some []
  | d :: r => (toKey d).bind fun k => (keysOf r).map (k :: ·)
theorem keysOf_inv : ∀ {ds : List PyData} {ks : List Key}, keysOf ds = some ks → ds = ks.map keyD
  | [], ks, h => by cases h; rfl
  | d :: r, ks, h => by
    unfold keysOf at h
    cases q : toKey d with
    | none => rw [q] at h; cases h
    | some k =>
      rw [q] at h
      cases q2 : keysOf r with
      | none => rw [q2] at h; cases h
      | some ks2 =>
        rw [q2] at h
        cases h
        rw [toKey_inv q, keysOf_inv q2]; rfl
theorem keysOf_map : ∀ ks : List Key, keysOf (ks.map keyD) = some ks
  | [] => rfl
  | k :: r => by
    show (toKey (keyD k)).bind _ = _
    rw [toKey_key]
    show (keysOf (r.map keyD)).map _ = _
    rw [keysOf_map r]; rfl
def toTK : PyData → Option (List Key)
  | .tuple ds => keysOf ds
  | _ => none
theorem toTK_key (k : List Key) : toTK (tkeyD k) = some k := keysOf_map k
theorem DtL.keys {S : List Addr} {H : Hp} : ∀ {vs : List V} {ks : List Key}, DtL S H vs (ks.map keyD) → vs = ks.map kV
  | _, [], .nil => rfl
  | _, k :: r, .cons h t => by
    rw [DtL.keys t]
    cases k with
    | inl i => rw [h.int_inv]; rfl
    | inr x => rw [h.str_inv]; rfl
theorem Sn.tkey {S : List Addr} {H : Hp} {v : V} {d : PyData} {k : List Key} (h : Sn S H v d) (e : toTK d = some k) : ∃ b, v = .ref b ∧ H b = some (.tup (k.map kV)) := by
  unfold toTK at e
  split at e
  · rw [keysOf_inv e] at h
    cases h with
    | dt h =>
      obtain ⟨a, vs, rfl, ea, hl⟩ := h.seqT
      exact ⟨a, rfl, by rw [ea, hl.keys]⟩
  · cases e
def tlook (ds : List (PyData × PyData)) (k : List Key) : Option PyData := (ds.find? fun p => decide (toTK p.1 = some k)).map (·.2)
theorem DtT.look {S : List Addr} {H : Hp} (k : List Key) : ∀ {kvs : List (List Key × V)} {ds : List (PyData × PyData)}, DtT S H kvs ds →
    (valV kvs k = none ∧ tlook ds k = none) ∨ ∃ v d, valV kvs k = some v ∧ tlook ds k = some d ∧ Dt S H v d
  | _, _, .nil => .inl ⟨rfl, rfl⟩
  | _, _, .cons (k := j) (v := v) (d := d) h r => by
    unfold valV tlook
    rw [List.find?_cons, List.find?_cons]
    by_cases e : j = k
    · subst e
      rw [decide_eq_true rfl, decide_eq_true (toTK_key j)]
      exact .inr ⟨v, d, rfl, rfl, h⟩
    · rw [decide_eq_false e, decide_eq_false (fun z => e (Option.some.inj ((toTK_key j).symm.trans z)))]
      exact DtT.look k r
/-- a dict's kind, what it holds for a key -/
def lookD : List (PyData × PyData) → PyData → Option (Option PyData)
  | (.none, .none) :: ds, y => (toTK y).map fun k => tlook ds k
  | (.bool true, .str _) :: _, _ => none
  | ds, y => (toKey y).map fun k => dlook ds k
theorem Sn.look {S : List Addr} {H : Hp} {x y : V} {ds : List (PyData × PyData)} {e : PyData} {o : Option PyData} (hx : Sn S H x (.dict ds)) (hy : Sn S H y e) (h : lookD ds e = some o) :
    ∃ a ov, x = .ref a ∧ DGet H a y ov ∧ ((o = none ∧ ov = none) ∨ ∃ v d, o = some d ∧ ov = some v ∧ Dt S H v d) := by
  obtain ⟨a, rfl, hk | ht | ⟨c, r, rfl⟩⟩ := hx.dct_inv
  · obtain ⟨kvs, ea, hd⟩ := hk
    have hds : lookD ds e = (toKey e).map fun k => dlook ds k := by
      cases hd with
      | nil => rfl
      | @cons k v vs d ds h r => cases k <;> rfl
    rw [hds] at h
    cases q : toKey e with
    | none => rw [q] at h; cases h
    | some k =>
      rw [q] at h
      have h : dlook ds k = o := Option.some.inj h
      refine ⟨a, valV kvs k, rfl, by rw [hy.key q]; exact DGet.k ea, ?_⟩
      rcases hd.look k with ⟨z1, z2⟩ | ⟨v, d, h2, h3, h4⟩
      · exact .inl ⟨h.symm.trans z2, z1⟩
      · exact .inr ⟨v, d, h.symm.trans h3, h2, h4⟩
  · obtain ⟨kvs, r, rfl, ea, hd⟩ := ht
    have h : (toTK e).map (fun k => tlook r k) = some o := h
    cases q : toTK e with
    | none => rw [q] at h; cases h
    | some k =>
      rw [q] at h
      have h : tlook r k = o := Option.some.inj h
      obtain ⟨b, rfl, eb⟩ := hy.tkey q
      refine ⟨a, valV kvs k, rfl, DGet.t ea eb, ?_⟩
      rcases hd.look k with ⟨z1, z2⟩ | ⟨v, d, h2, h3, h4⟩
      · exact .inl ⟨h.symm.trans z2, z1⟩
      · exact .inr ⟨v, d, h.symm.trans h3, h2, h4⟩
  · cases h
/-! ### subscripts -/
def gIx : PyData → PyData → Option PyData
  | .list xs, .int i => atI xs i
  | .tuple xs, .int i => atI xs i
  | .str z, .int i => if z.length ≤ sizeLine then (atI z.cps.toList i).map fun c => .str ⟨#[c]⟩ else none
  | .dict ds, k => (lookD ds k).bind id
  | _, _ => none
theorem DtL.at {S : List Addr} {H : Hp} {vs : List V} {ds : List PyData} {i : Int} {d : PyData} (h : DtL S H vs ds) (e : atI ds i = some d) : ∃ v, atI vs i = some v ∧ Dt S H v d := by
  unfold atI at *
  rw [h.len]
  cases q : ixN ds.length i with
  | none => rw [q] at e; cases e
  | some j =>
    rw [q] at e
    exact h.get e
theorem _root_.L2.PE.or {X : Cx} {e : Expr} {t u : TE} (h : PE X e t) (h' : PE X e u) : PE X e (fun σ H Q => t σ H Q ∨ u σ H Q) := ⟨fun pins s σ H Q I q => q.elim (h.run pins s σ H Q I) (h'.run pins s σ H Q I)⟩
theorem PostE.left {S : List Addr} {ρ : Env} {σ : St} {H : Hp} {P : V → Hp → PyData → Prop} {r : R PyData} {t u : VK → Prop} (h : PostE C E S ρ σ H P r t) : PostE C E S ρ σ H P r (fun Q => t Q ∨ u Q) := by
  unfold PostE at *
  split
  · trivial
  · exact fun Q hq => .inl (h Q hq)
  · exact fun e Q => .inl (h e Q)
theorem PostE.right {S : List Addr} {ρ : Env} {σ : St} {H : Hp} {P : V → Hp → PyData → Prop} {r : R PyData} {t u : VK → Prop} (h : PostE C E S ρ σ H P r u) : PostE C E S ρ σ H P r (fun Q => t Q ∨ u Q) := by
  unfold PostE at *
  split
  · trivial
  · exact fun Q hq => .inr (h Q hq)
  · exact fun e Q => .inr (h e Q)
/-! ### dicts that stand in memory, by values -/
def rDGetV : R2 := fun x y H Q => ∃ a v, x = .ref a ∧ DGet H a y (some v) ∧ Q v H
theorem ix_dg {X : Cx} (hu : X.A.units + 1 < cLine) : IxR X rDGetV := by
  intro value slice pins s σ H x y v u Q I rx ry h hs
  obtain ⟨a, z, rfl, g, q⟩ := h
  obtain rfl : v = Value.ref a := rx
  have hT := dict_typeIs I g
  unfold subscriptTail
  refine wpAny_bind ?_
  rw [getitemInPython_of_ne hT.not_modules]
  refine wpAny_bind (wpAny_specialOf hT PySem.F.slot_dict_getitem.lookup ?_)
  have h₂ : wpAny (model X.prog X.w) X.A (getItem (.ref a) u) (EP X pins σ Q) X.xe s := d_getItem hu I g ry fun w' s3 I3 rw' => ⟨z, H, I3, rw', q⟩
  have fin : wpAny (model X.prog X.w) X.A (subscripted slice false (.ref a) u) (fun r s₃ => wpAny (model X.prog X.w) X.A (letTemporaryGo value (.ref a) r >>= fun _ => pure r) (EP X pins σ Q) X.xe s₃) X.xe s := by
    rw [hs]
    exact wpAny_operating (wpAny_mono h₂ (fun r s₃ h₃ => wpAny_bind (wpAny_letTemporaryGo (wpAny_pure h₃))) fun _ _ x => x)
  first
    | exact wpAny_pure (wpAny_bind fin)
    | exact wpAny_bind (wpAny_pure (wpAny_bind fin))
    | exact wpAny_bind fin
def rDIn : R2 := fun y x H Q => ∃ a o, x = .ref a ∧ DGet H a y o ∧ Q (.bl o.isSome) H
def rDNotIn : R2 := fun y x H Q => ∃ a o, x = .ref a ∧ DGet H a y o ∧ Q (.bl (!o.isSome)) H
theorem op_dIn {X : Cx} (hu : X.A.units + 1 < cLine) : OpR X (compareOp .In) rDIn := by
  intro pins s σ H y x iv u Q I ry rx h
  obtain ⟨a, o, rfl, g, q⟩ := h
  obtain rfl : u = Value.ref a := rx
  exact d_in hu I g ry fun s3 I3 => ⟨.bl o.isSome, H, I3, rfl, q⟩
theorem op_dNotIn {X : Cx} (hu : X.A.units + 1 < cLine) : OpR X (compareOp .NotIn) rDNotIn := by
  intro pins s σ H y x iv u Q I ry rx h
  obtain ⟨a, o, rfl, g, q⟩ := h
  obtain rfl : u = Value.ref a := rx
  exact d_notIn hu I g ry fun s3 I3 => ⟨.bl (!o.isSome), H, I3, rfl, q⟩
/-- a[b] of anything -/
def rIxA (K : PySem.W.Frag) : R2 := fun x y H Q => rIx K x y H Q ∨ rDGetV x y H Q
theorem ix_A {X : Cx} (hu : X.A.units + 1 < cLine) : IxR X (rIxA X.K) := ix_seq.or (ix_dg hu)
theorem atI_map {α β : Type} {f : α → β} {xs : List α} {i : Int} : atI (xs.map f) i = (atI xs i).map f := by
  unfold atI
  rw [List.length_map]
  cases ixN xs.length i with
  | none => rfl
  | some j => exact List.getElem?_map ..
theorem d_ix : DOp2 C (rIxA C.G.K) gIx := by
  intro S H x y d e res hx hy hS hr Q hq
  unfold gIx at hr
  split at hr
  · obtain ⟨a, vs, rfl, ea, ha⟩ := hx.lst_inv
    rw [hy.int_inv]
    obtain ⟨v, e1, h1⟩ := ha.at hr
    exact .inl (.inl ⟨a, vs, _, v, rfl, rfl, sqL ea, e1, hq _ _ .refl h1⟩)
  · obtain ⟨a, vs, rfl, ea, ha⟩ := hx.tup_inv
    rw [hy.int_inv]
    obtain ⟨v, e1, h1⟩ := ha.at hr
    exact .inl (.inr (.inl ⟨a, vs, _, v, rfl, rfl, sqT ea, e1, hq _ _ .refl h1⟩))
  · split at hr
    · rename_i z i hz
      cases q : atI z.cps.toList i with
      | none => rw [q] at hr; cases hr
      | some c =>
        rw [q] at hr
        cases hr
        rw [hx.str_inv, hy.int_inv]
        exact .inl (.inr (.inr ⟨z, i, c, rfl, rfl, hz, q, hq _ _ .refl (.str _)⟩))
    · cases hr
  · rename_i ds
    cases q : lookD ds e with
    | none => rw [q] at hr; cases hr
    | some o =>
      rw [q] at hr
      have hr : o = some res := hr
      obtain ⟨a, ov, rfl, g, ⟨rfl, rfl⟩ | ⟨v, d, e1, rfl, hd⟩⟩ := hx.look hy q
      · cases hr
      · rw [e1] at hr; cases hr
        exact .inr ⟨a, v, rfl, g, hq _ _ .refl hd⟩
  · cases hr
theorem ve_ix {a b : Expr} {pos : Pos} {fa fb : EX} (hc : Xc X C) (hu : ∀ i, (X i).A.units + 1 < cLine) (ha : VB X C E a fa) (hb : VB X C E b fb) (hs : PlainIx b) : VE X C E (.Subscript a b pos) (Ev.o2 gIx fa fb) :=
  ve_o2 (fun i _ _ pa pb => pe_ix (by have := ix_A (hu i); rw [hc.K i] at this; exact this) pa pb hs) d_ix ha hb
/-! ### in -/
def flatD : PyData → Bool
  | .none => true
  | .bool _ => true
  | .int _ => true
  | .str _ => true
  | _ => false
theorem Dt.flat {S : List Addr} {H : Hp} {v : V} {d : PyData} (h : Dt S H v d) (f : flatD d = true) : flatV v = true := by
  cases h <;> first | rfl | (unfold flatD at f; cases f)
theorem eqv_flat {S : List Addr} {H : Hp} {v u : V} {d e : PyData} (h : Dt S H v d) (h' : Dt S H u e) (f : flatD d = true) (f' : flatD e = true) : eqV v u = PyData.eqv d e := by
  cases h <;> cases h' <;> first | rfl | (unfold flatD at f; cases f; done) | (unfold flatD at f'; cases f'; done)
theorem DtL.flats {S : List Addr} {H : Hp} : ∀ {vs : List V} {ds : List PyData}, DtL S H vs ds → ds.all flatD = true → vs.all flatV = true
  | _, _, .nil, _ => rfl
  | _, _, .cons h r, f => by
    rw [List.all_cons, Bool.and_eq_true] at f
    rw [List.all_cons, h.flat f.1, DtL.flats r f.2]
    rfl
theorem DtL.inV {S : List Addr} {H : Hp} {x : V} {d : PyData} (hx : Dt S H x d) (fx : flatD d = true) : ∀ {vs : List V} {ds : List PyData}, DtL S H vs ds → ds.all flatD = true → L2.inV x vs = ds.any fun z => PyData.eqv z d
  | _, _, .nil, _ => rfl
  | _, _, .cons h r, f => by
    rw [List.all_cons, Bool.and_eq_true] at f
    have ih := DtL.inV hx fx r f.2
    unfold L2.inV at ih ⊢
    rw [List.any_cons, List.any_cons, ih, eqv_flat h hx f.1 fx]
/-- is it in? -/
def inD (d : PyData) : PyData → Option Bool
  | .list ds => if SeqAt.shaped d && SeqAt.shaped (.list ds) then some (ds.any fun z => PyData.eqv z d) else none
  | .tuple ds => if flatD d && ds.all flatD then some (ds.any fun z => PyData.eqv z d) else none
  | .str z => match d with
    | .str y => some (!(Builtin.Str.occurrences z y 0 z.length 1).isEmpty)
    | _ => none
  | .dict ds => (lookD ds d).map (·.isSome)
  | _ => none
def gIn (d e : PyData) : Option PyData := (inD d e).map .bool
def gNotIn (d e : PyData) : Option PyData := (inD d e).map fun b => .bool (!b)
def rInU (K : PySem.W.Frag) : R2 := fun x y H Q => rInD K x y H Q ∨ rIn K false x y H Q ∨ (∃ i j, x = .str i ∧ y = .str j ∧ Q (.bl (!(Builtin.Str.occurrences j i 0 j.length 1).isEmpty)) H) ∨ rDIn x y H Q
def rNotInU (K : PySem.W.Frag) : R2 := fun x y H Q => rNotInD K x y H Q ∨ rIn K true x y H Q ∨ (∃ i j, x = .str i ∧ y = .str j ∧ Q (.bl (!(!(Builtin.Str.occurrences j i 0 j.length 1).isEmpty))) H) ∨ rDNotIn x y H Q
theorem op_inU {X : Cx} (hu : X.A.units + 65 < cLine) : OpR X (compareOp .In) (rInU X.K) := (op_inD hu).or (op_in_seq.or (op_in_str.or (op_dIn (by omega))))
theorem op_notInU {X : Cx} (hu : X.A.units + 65 < cLine) : OpR X (compareOp .NotIn) (rNotInU X.K) := (op_notInD hu).or (op_notIn_seq.or (op_notin_str.or (op_dNotIn (by omega))))
/-- both at once -/
theorem in_cases {S : List Addr} {H : Hp} {x y : V} {d e : PyData} {b : Bool} (hx : Sn S H x d) (hy : Sn S H y e) (hr : inD d e = some b) :
    (∃ ds, Dp C.G.K H x d ∧ Dp C.G.K H y (.list ds) ∧ SeqAt.shaped d = true ∧ SeqAt.shaped (.list ds) = true ∧ b = ds.any fun z => PyData.eqv z d) ∨
    (∃ p xs, y = .ref p ∧ (SqL C.G.K H p xs ∨ SqT C.G.K H p xs) ∧ flatV x = true ∧ xs.all flatV = true ∧ b = inV x xs) ∨
    (∃ i j, x = .str i ∧ y = .str j ∧ b = !(Builtin.Str.occurrences j i 0 j.length 1).isEmpty) ∨
    (∃ a o, y = .ref a ∧ DGet H a x o ∧ b = o.isSome) := by
  unfold inD at hr
  split at hr
  · split at hr
    · rename_i h
      rw [Bool.and_eq_true] at h
      cases hr
      exact .inl ⟨_, hx.dp (shaped_plain h.1), hy.dp (shaped_plain h.2), h.1, h.2, rfl⟩
    · cases hr
  · split at hr
    · rename_i h
      rw [Bool.and_eq_true] at h
      cases hr
      obtain ⟨a, vs, rfl, ea, ha⟩ := hy.tup_inv
      have hxd : Dt S H x d := by
        cases hx with
        | dt h => exact h
        | _ => cases h.1
      exact .inr (.inl ⟨a, vs, rfl, .inr (sqT ea), hxd.flat h.1, ha.flats h.2, (ha.inV hxd h.1 h.2).symm⟩)
    · cases hr
  · split at hr
    · cases hr
      exact .inr (.inr (.inl ⟨_, _, hx.str_inv, hy.str_inv, rfl⟩))
    · cases hr
  · rename_i ds
    cases q : lookD ds d with
    | none => rw [q] at hr; cases hr
    | some o =>
      rw [q] at hr
      cases hr
      obtain ⟨a, ov, rfl, g, ⟨rfl, rfl⟩ | ⟨v, d, rfl, rfl, hd⟩⟩ := hy.look hx q
      · exact .inr (.inr (.inr ⟨a, _, rfl, g, rfl⟩))
      · exact .inr (.inr (.inr ⟨a, _, rfl, g, rfl⟩))
  · cases hr
theorem d_in : DOp2 C (rInU C.G.K) gIn := by
  intro S H x y d e res hx hy hS hr Q hq
  unfold gIn at hr
  cases q : inD d e with
  | none => rw [q] at hr; cases hr
  | some b =>
    rw [q] at hr
    cases hr
    rcases in_cases hx hy q with ⟨ds, h1, h2, h3, h4, h5⟩ | ⟨p, xs, h1, h2, h3, h4, h5⟩ | ⟨i, j, h1, h2, h5⟩ | ⟨a, o, h1, h2, h5⟩
    · exact .inl ⟨d, ds, h1, h2, h3, h4, h5 ▸ hq _ _ .refl (.bl _)⟩
    · exact .inr (.inl ⟨p, xs, h1, h2, h3, h4, by rw [← h5]; exact hq _ _ .refl (.bl _)⟩)
    · exact .inr (.inr (.inl ⟨i, j, h1, h2, h5 ▸ hq _ _ .refl (.bl _)⟩))
    · exact .inr (.inr (.inr ⟨a, o, h1, h2, h5 ▸ hq _ _ .refl (.bl _)⟩))
theorem d_notIn : DOp2 C (rNotInU C.G.K) gNotIn := by
  intro S H x y d e res hx hy hS hr Q hq
  unfold gNotIn at hr
  cases q : inD d e with
  | none => rw [q] at hr; cases hr
  | some b =>
    rw [q] at hr
    cases hr
    rcases in_cases hx hy q with ⟨ds, h1, h2, h3, h4, h5⟩ | ⟨p, xs, h1, h2, h3, h4, h5⟩ | ⟨i, j, h1, h2, h5⟩ | ⟨a, o, h1, h2, h5⟩
    · exact .inl ⟨d, ds, h1, h2, h3, h4, by rw [← h5]; exact hq _ _ .refl (.bl _)⟩
    · exact .inr (.inl ⟨p, xs, h1, h2, h3, h4, by rw [if_pos rfl, ← h5]; exact hq _ _ .refl (.bl _)⟩)
    · exact .inr (.inr (.inl ⟨i, j, h1, h2, by rw [← h5]; exact hq _ _ .refl (.bl _)⟩))
    · exact .inr (.inr (.inr ⟨a, o, h1, h2, by rw [← h5]; exact hq _ _ .refl (.bl _)⟩))
theorem ve_eq {a b : Expr} {pos : Pos} {fa fb : EX} (hc : Xc X C) (hu : ∀ i, (X i).A.units + 64 < cLine) (ha : VB X C E a fa) (hb : VB X C E b fb) : VE X C E (.Compare a [.Eq] [b] pos) (Ev.o2 gEq fa fb) := ve_cmp (fun i => by have := op_eqD (hu i); rw [hc.K i] at this; exact this) d_eq ha hb (nomark _)
theorem ve_ne {a b : Expr} {pos : Pos} {fa fb : EX} (hc : Xc X C) (hu : ∀ i, (X i).A.units + 64 < cLine) (ha : VB X C E a fa) (hb : VB X C E b fb) : VE X C E (.Compare a [.NotEq] [b] pos) (Ev.o2 gNe fa fb) := ve_cmp (fun i => by have := op_neD (hu i); rw [hc.K i] at this; exact this) d_ne ha hb (nomark _)
end
end Fx
set_option Elab.async false
set_option linter.all false
set_option maxRecDepth 100000
set_option maxHeartbeats 2000000
namespace Fx
open PySem PySem.Spec PyProof.Rows L2 Kb
variable [Nm]
/-! ### tests -/
def PostT (C : Ct) (E : XK) (S : List Addr) (ρ : Env) (σ : St) (H : Hp) (r : R Bool) (t : (Bool → Hp → Prop) → Prop) : Prop := match r with
  | .stuck => True
  | .ok b D' => ∀ Q : Bool → Hp → Prop, (∀ H', Kq C S H H' → Fm C S ρ D' σ H' → Q b H') → t Q
  | .err c fs D' => ErrP C E D' c fs → ∀ Q, t Q
abbrev RdT (C : Ct) (E : XK) (t : TT) (f : EB) : Prop := ∀ S ρ D σ H, Fm C S ρ D σ H → PostT C E S ρ σ H (f ρ D) (fun Q => t σ H Q)
structure VT {ι : Type} (X : ι → Cx) (C : Ct) (E : XK) (e : Expr) (f : EB) : Prop where
  ex : ∃ t, (∀ i, PT (X i) e t) ∧ RdT C E t f
structure VW {ι : Type} (X : ι → Cx) (C : Ct) (E : XK) (e : Expr) (f : EB) : Prop where
  ex : ∃ t, (∀ i, PW (X i) e t) ∧ RdT C E t f
namespace Ev
/-- a value that must be True or False; by truth -/
def tb (a : EX) : EB := fun ρ D => (a ρ D).bind fun x D1 => match x with
  | .bool b => .ok b D1
  | _ => .stuck
def tt (a : EX) : EB := fun ρ D => (a ρ D).bind fun x D1 => ofO (truD x) D1
def tand (a b : EB) : EB := fun ρ D => (a ρ D).bind fun x D1 => if x = true then b ρ D1 else .ok false D1
def tor (a b : EB) : EB := fun ρ D => (a ρ D).bind fun x D1 => if x = true then .ok true D1 else b ρ D1
def tnot (a : EB) : EB := fun ρ D => (a ρ D).bind fun x D1 => .ok (!x) D1
def bv (a : EB) : EX := fun ρ D => (a ρ D).bind fun x D1 => .ok (.bool x) D1
def ifx (t : EB) (a b : EX) : EX := fun ρ D => (t ρ D).bind fun x D1 => if x = true then a ρ D1 else b ρ D1
/-- and, or of values by truth -/
def andv (a b : EX) : EX := fun ρ D => (a ρ D).bind fun x D1 => (ofO (truD x) D1).bind fun k D2 => if k = true then b ρ D2 else .ok x D2
def orv (a b : EX) : EX := fun ρ D => (a ρ D).bind fun x D1 => (ofO (truD x) D1).bind fun k D2 => if k = true then .ok x D2 else b ρ D2
def notv (a : EX) : EX := fun ρ D => (a ρ D).bind fun x D1 => (ofO (truD x) D1).bind fun k D2 => .ok (.bool (!k)) D2
/-- a op b op' c -/
def chain (g g' : PyData → PyData → Option PyData) (a b c : EX) : EX := fun ρ D => (a ρ D).bind fun x D1 => (b ρ D1).bind fun y D2 => (ofO (g x y) D2).bind fun z D3 => match z with
  | .bool true => (c ρ D3).bind fun u D4 => ofO (g' y u) D4
  | .bool false => .ok (.bool false) D3
  | _ => .stuck
end Ev
section
variable {ι : Type} {X : ι → Cx} {C : Ct} {E : XK} {S : List Addr} {ρ : Env} {D : Dw} {σ : St} {H : Hp}
theorem PostT.ok {b : Bool} {D' : Dw} {t : (Bool → Hp → Prop) → Prop} (F : Fm C S ρ D' σ H) (h : ∀ Q : Bool → Hp → Prop, Q b H → t Q) : PostT C E S ρ σ H (.ok b D') t := fun Q hq => h Q (hq H .refl F)
/-- from a value's reading to a test's -/
theorem PostE.bindT {P : V → Hp → PyData → Prop} {r : R PyData} {ta : VK → Prop} {g : PyData → Dw → R Bool} {k : V → Hp → (Bool → Hp → Prop) → Prop} (h : PostE C E S ρ σ H P r ta)
    (hk : ∀ d D1 x H1, Kq C S H H1 → Fm C S ρ D1 σ H1 → P x H1 d → PostT C E S ρ σ H1 (g d D1) (fun Q => k x H1 Q)) : PostT C E S ρ σ H (r.bind g) (fun Q => ta fun x H1 => k x H1 Q) := by
  cases r with
  | stuck => trivial
  | err c fs D1 => exact fun e Q => h e _
  | ok d D1 =>
    show PostT C E S ρ σ H (g d D1) _
    have key : ∀ Q, (∀ x H1, Kq C S H H1 → Fm C S ρ D1 σ H1 → P x H1 d → k x H1 Q) → ta fun x H1 => k x H1 Q := fun Q hq => h _ fun v H' a b c => hq v H' a b c
    generalize hg : g d D1 = r2
    cases r2 with
    | stuck => trivial
    | err c fs D2 =>
      refine fun e Q => key Q fun x H1 a b c => ?_
      have := hk d D1 x H1 a b c
      rw [hg] at this
      exact this e Q
    | ok d2 D2 =>
      refine fun Q hq => key Q fun x H1 a b c => ?_
      have := hk d D1 x H1 a b c
      rw [hg] at this
      exact this Q fun H' a2 b2 => hq H' (a.trans a2) b2
theorem PostT.bindT {r : R Bool} {ta : (Bool → Hp → Prop) → Prop} {g : Bool → Dw → R Bool} {k : Bool → Hp → (Bool → Hp → Prop) → Prop} (h : PostT C E S ρ σ H r ta)
    (hk : ∀ d D1 H1, Kq C S H H1 → Fm C S ρ D1 σ H1 → PostT C E S ρ σ H1 (g d D1) (fun Q => k d H1 Q)) : PostT C E S ρ σ H (r.bind g) (fun Q => ta fun x H1 => k x H1 Q) := by
  cases r with
  | stuck => trivial
  | err c fs D1 => exact fun e Q => h e _
  | ok d D1 =>
    show PostT C E S ρ σ H (g d D1) _
    have key : ∀ Q, (∀ H1, Kq C S H H1 → Fm C S ρ D1 σ H1 → k d H1 Q) → ta fun x H1 => k x H1 Q := fun Q hq => h _ fun H' a b => hq H' a b
    generalize hg : g d D1 = r2
    cases r2 with
    | stuck => trivial
    | err c fs D2 =>
      refine fun e Q => key Q fun H1 a b => ?_
      have := hk d D1 H1 a b
      rw [hg] at this
      exact this e Q
    | ok d2 D2 =>
      refine fun Q hq => key Q fun H1 a b => ?_
      have := hk d D1 H1 a b
      rw [hg] at this
      exact this Q fun H' a2 b2 => hq H' (a.trans a2) b2
theorem PostT.bindE {P : V → Hp → PyData → Prop} {r : R Bool} {ta : (Bool → Hp → Prop) → Prop} {g : Bool → Dw → R PyData} {k : Bool → Hp → VK → Prop} (h : PostT C E S ρ σ H r ta)
    (hk : ∀ d D1 H1, Kq C S H H1 → Fm C S ρ D1 σ H1 → PostE C E S ρ σ H1 P (g d D1) (fun Q => k d H1 Q)) : PostE C E S ρ σ H P (r.bind g) (fun Q => ta fun x H1 => k x H1 Q) := by
  cases r with
  | stuck => trivial
  | err c fs D1 => exact fun e Q => h e _
  | ok d D1 =>
    show PostE C E S ρ σ H P (g d D1) _
    have key : ∀ Q, (∀ H1, Kq C S H H1 → Fm C S ρ D1 σ H1 → k d H1 Q) → ta fun x H1 => k x H1 Q := fun Q hq => h _ fun H' a b => hq H' a b
    generalize hg : g d D1 = r2
    cases r2 with
    | stuck => trivial
    | err c fs D2 =>
      refine fun e Q => key Q fun H1 a b => ?_
      have := hk d D1 H1 a b
      rw [hg] at this
      exact this e Q
    | ok d2 D2 =>
      refine fun Q hq => key Q fun H1 a b => ?_
      have := hk d D1 H1 a b
      rw [hg] at this
      exact this Q fun v H' a2 b2 c2 => hq v H' (a.trans a2) b2 c2
theorem DtK.unmarked {kvs : List (Key × V)} {ds : List (PyData × PyData)} (h : DtK S H kvs ds) : Ev.isMark ds = false := by
  cases h with
  | nil => rfl
  | @cons k v vs d ds h r => cases k <;> rfl
/-- a value that is seen: its truth -/
theorem Sn.truth {K : PySem.W.Frag} {v : V} {d : PyData} {k : Bool} (h : Sn S H v d) (e : Ev.truD d = some k) : TruV K v H k := by
  unfold Ev.truD at e
  split at e
  · cases e; rw [h.non_inv]; rfl
  · cases e; rw [h.bl_inv]; rfl
  · cases e; rw [h.int_inv]; rfl
  · split at e
    · rename_i hl
      cases e
      rw [h.str_inv]
      exact ⟨hl, rfl⟩
    · cases e
  · cases e
    obtain ⟨a, vs, rfl, ea, hd⟩ := h.lst_inv
    exact .inl ⟨vs, sqL ea, by cases hd <;> rfl⟩
  · cases e
    obtain ⟨a, vs, rfl, ea, hd⟩ := h.tup_inv
    exact .inr (.inl ⟨vs, sqT ea, by cases hd <;> rfl⟩)
  · split at e
    · cases e
    · rename_i hm
      cases e
      obtain ⟨a, rfl, ⟨kvs, ea, hd⟩ | ⟨kvs, r, rfl, _, _⟩ | ⟨c, r, rfl⟩⟩ := h.dct_inv
      · exact .inr (.inr ⟨kvs, ea, by cases hd <;> rfl⟩)
      · exact absurd rfl hm
      · exact absurd rfl hm
/-! ### the rules -/
variable {a b c e : Expr} {rest : List Expr} {pos : Pos} {fa fb fc : EX} {ga gb : EB}
theorem rd_tb {ta : TE} (q : RdE C E ta fa) : RdT C E (tTest ta) (Ev.tb fa) := by
  intro S ρ D σ H F
  show PostT C E S ρ σ H _ (fun Q => ta σ H fun x H' => ∃ k, x = .bl k ∧ Q k H')
  refine PostE.bindT (q S ρ D σ H F) fun d D1 x H1 k1 F1 h1 => ?_
  split
  · exact PostT.ok F1 fun Q hq => ⟨_, h1.bl_inv, hq⟩
  · trivial
/-- a comparison as a test -/
theorem vt_cmp {op : CmpOp} {r : R2} {g : PyData → PyData → Option PyData} (ho : ∀ i, OpR (X i) (compareOp op) r) (hg : DOp2 C r g) (ha : VB X C E a fa) (hb : VB X C E b fb) (hm : behindInMarks op b = false) : VT X C E (.Compare a [op] [b] pos) (Ev.tb (Ev.o2 g fa fb)) := by
  obtain ⟨ta, pa, qa⟩ := ha.ex
  obtain ⟨tb, pb, qb⟩ := hb.ex
  exact ⟨_, (fun i => pt_cmpR (ho i) (pa i) (pb i) hm), rd_tb (rd_o2 hg qa qb)⟩
/-- by truth -/
theorem vt_truth (hc : Xc X C) (ha : VB X C E a fa) (he : ∀ i whole, isTrue a (X i).env whole = (do let v ← whole; standAt a.pos; holding [v] (truthy v)) := by intro _ _; rfl) : VT X C E a (Ev.tt fa) := by
  obtain ⟨ta, pa, qa⟩ := ha.ex
  refine ⟨_, (fun i => by have := pt_truth (pa i) (he i); rw [hc.K i] at this; exact this), fun S ρ D σ H F => ?_⟩
  refine PostE.bindT (qa S ρ D σ H F) fun d D1 x H1 k1 F1 h1 => ?_
  cases q : Ev.truD d with
  | none => trivial
  | some k => exact PostT.ok F1 fun Q hq => ⟨k, (h1.sn F1).truth q, hq⟩
theorem VW.vt (h : VW X C E a ga) : VT X C E a ga := let ⟨t, p, q⟩ := h.ex; ⟨t, fun i => (p i).pt, q⟩
theorem rd_tand {ta tb : TT} (qa : RdT C E ta ga) (qb : RdT C E tb gb) : RdT C E (tAnd ta tb) (Ev.tand ga gb) := by
  intro S ρ D σ H F
  show PostT C E S ρ σ H _ (fun Q => ta σ H fun c H1 => if c = true then tb σ H1 Q else Q false H1)
  refine PostT.bindT (qa S ρ D σ H F) fun d D1 H1 k1 F1 => ?_
  cases d with
  | true => exact qb S ρ D1 σ H1 F1
  | false => exact PostT.ok F1 fun Q hq => hq
theorem rd_tor {ta tb : TT} (qa : RdT C E ta ga) (qb : RdT C E tb gb) : RdT C E (tOr ta tb) (Ev.tor ga gb) := by
  intro S ρ D σ H F
  show PostT C E S ρ σ H _ (fun Q => ta σ H fun c H1 => if c = true then Q true H1 else tb σ H1 Q)
  refine PostT.bindT (qa S ρ D σ H F) fun d D1 H1 k1 F1 => ?_
  cases d with
  | true => exact PostT.ok F1 fun Q hq => hq
  | false => exact qb S ρ D1 σ H1 F1
theorem vw_and1 (ha : VT X C E a ga) : VW X C E (.BoolOp .And [a] pos) ga := let ⟨t, p, q⟩ := ha.ex; ⟨t, fun i => pw_and1 (p i), q⟩
theorem vw_or1 (ha : VT X C E a ga) : VW X C E (.BoolOp .Or [a] pos) ga := let ⟨t, p, q⟩ := ha.ex; ⟨t, fun i => pw_or1 (p i), q⟩
theorem vw_and (ha : VT X C E a ga) (hb : VW X C E (.BoolOp .And (b :: rest) pos) gb) : VW X C E (.BoolOp .And (a :: b :: rest) pos) (Ev.tand ga gb) := let ⟨_, p, q⟩ := ha.ex; let ⟨_, p', q'⟩ := hb.ex; ⟨_, fun i => pw_and (p i) (p' i), rd_tand q q'⟩
theorem vw_or (ha : VT X C E a ga) (hb : VW X C E (.BoolOp .Or (b :: rest) pos) gb) : VW X C E (.BoolOp .Or (a :: b :: rest) pos) (Ev.tor ga gb) := let ⟨_, p, q⟩ := ha.ex; let ⟨_, p', q'⟩ := hb.ex; ⟨_, fun i => pw_or (p i) (p' i), rd_tor q q'⟩
theorem vt_not (ha : VT X C E a ga) : VT X C E (.UnaryOp .Not a pos) (Ev.tnot ga) := by
  obtain ⟨ta, pa, qa⟩ := ha.ex
  refine ⟨_, (fun i => pt_not (pa i)), fun S ρ D σ H F => ?_⟩
  show PostT C E S ρ σ H _ (fun Q => ta σ H fun c H1 => Q (!c) H1)
  exact PostT.bindT (qa S ρ D σ H F) fun d D1 H1 k1 F1 => PostT.ok F1 fun Q hq => hq
theorem ve_ifx (ht : VT X C E c ga) (ha : VE X C E a fa) (hb : VE X C E b fb) : VE X C E (.IfExp c a b pos) (Ev.ifx ga fa fb) := by
  obtain ⟨tc, pc, qc⟩ := ht.ex
  obtain ⟨ta, pa, qa⟩ := ha.ex
  obtain ⟨tb, pb, qb⟩ := hb.ex
  refine ⟨_, (fun i => pe_ifExp (pc i) (pa i) (pb i)), fun S ρ D σ H F => ?_⟩
  refine PostT.bindE (qc S ρ D σ H F) fun d D1 H1 k1 F1 => ?_
  cases d with
  | true => exact qa S ρ D1 σ H1 F1
  | false => exact qb S ρ D1 σ H1 F1
/-! and, or, not as values -/
theorem ve_one {op : BoolOp} (ha : VE X C E a fa) : VE X C E (.BoolOp op [a] pos) fa := let ⟨t, p, q⟩ := ha.ex; ⟨t, fun i => pe_one (p i), q⟩
theorem tru_bind {P : V → Hp → PyData → Prop} {d : PyData} {x : V} {g : Bool → Dw → R PyData} {k : Bool → VK → Prop} (F : Fm C S ρ D σ H) (h : Sn S H x d) (hk : ∀ b, PostE C E S ρ σ H P (g b D) (fun Q => k b Q)) :
    PostE C E S ρ σ H P ((ofO (Ev.truD d) D).bind g) (fun Q => ∃ b, TruV C.G.K x H b ∧ k b Q) := by
  cases q : Ev.truD d with
  | none => trivial
  | some b =>
    have hb := hk b
    show PostE C E S ρ σ H P (g b D) _
    unfold PostE at *
    split
    · trivial
    · rename_i d2 D2 e
      rw [e] at hb
      exact fun Q hq => ⟨b, h.truth q, hb Q hq⟩
    · rename_i c2 fs2 D2 e
      rw [e] at hb
      exact fun z Q => ⟨b, h.truth q, hb z Q⟩
theorem PostE.ret {d : PyData} {v : V} (F : Fm C S ρ D σ H) (h : Dt S H v d) : PostE C E S ρ σ H (fun v H' d => Dt S H' v d) (.ok d D) (fun Q => Q v H) := fun Q hq => hq v H .refl F h
theorem ve_and (hc : Xc X C) (ha : VE X C E a fa) (hb : VE X C E (.BoolOp .And (b :: rest) pos) fb) : VE X C E (.BoolOp .And (a :: b :: rest) pos) (Ev.andv fa fb) := by
  obtain ⟨ta, pa, qa⟩ := ha.ex
  obtain ⟨tb, pb, qb⟩ := hb.ex
  refine ⟨_, (fun i => by have := pe_andT (pos := pos) (pa i) (pb i); rw [hc.K i] at this; exact this), fun S ρ D σ H F => ?_⟩
  show PostE C E S ρ σ H _ _ (fun Q => ta σ H fun x H1 => ∃ k, TruV C.G.K x H1 k ∧ if k = true then tb σ H1 Q else Q x H1)
  refine PostE.bind (qa S ρ D σ H F) fun d D1 x H1 k1 F1 h1 => tru_bind F1 (.dt h1) fun k => ?_
  cases k with
  | true => exact qb S ρ D1 σ H1 F1
  | false => exact PostE.ret F1 h1
theorem ve_or (hc : Xc X C) (ha : VE X C E a fa) (hb : VE X C E (.BoolOp .Or (b :: rest) pos) fb) : VE X C E (.BoolOp .Or (a :: b :: rest) pos) (Ev.orv fa fb) := by
  obtain ⟨ta, pa, qa⟩ := ha.ex
  obtain ⟨tb, pb, qb⟩ := hb.ex
  refine ⟨_, (fun i => by have := pe_orT (pos := pos) (pa i) (pb i); rw [hc.K i] at this; exact this), fun S ρ D σ H F => ?_⟩
  show PostE C E S ρ σ H _ _ (fun Q => ta σ H fun x H1 => ∃ k, TruV C.G.K x H1 k ∧ if k = true then Q x H1 else tb σ H1 Q)
  refine PostE.bind (qa S ρ D σ H F) fun d D1 x H1 k1 F1 h1 => tru_bind F1 (.dt h1) fun k => ?_
  cases k with
  | true => exact PostE.ret F1 h1
  | false => exact qb S ρ D1 σ H1 F1
theorem ve_not (hc : Xc X C) (ha : VB X C E a fa) : VE X C E (.UnaryOp .Not a pos) (Ev.notv fa) := by
  obtain ⟨ta, pa, qa⟩ := ha.ex
  refine ⟨_, (fun i => by have := pe_notT (pos := pos) (pa i); rw [hc.K i] at this; exact this), fun S ρ D σ H F => ?_⟩
  show PostE C E S ρ σ H _ _ (fun Q => ta σ H fun x H1 => ∃ k, TruV C.G.K x H1 k ∧ Q (.bl (!k)) H1)
  exact PostE.bind (qa S ρ D σ H F) fun d D1 x H1 k1 F1 h1 => tru_bind F1 (h1.sn F1) fun k => PostE.ret F1 (.bl _)
/-! a < b < c -/
theorem rd_chain {ta tb tc : TE} {r r' : R2} {g g' : PyData → PyData → Option PyData} (hg : DOp2 C r g) (hg' : DOp2 C r' g') (qa : RdB C E ta fa) (qb : RdB C E tb fb) (qc : RdB C E tc fc) (sc : ∀ d e z, g d e = some z → ∃ b, z = .bool b) :
    RdE C E (tChain r r' ta tb tc) (Ev.chain g g' fa fb fc) := by
  intro S ρ D σ H F
  show PostE C E S ρ σ H _ _ (fun Q => ta σ H fun x H1 => tb σ H1 fun y H2 => r x y H2 fun z H3 => ∃ k, z = .bl k ∧ if k = true then tc σ H3 (fun w H4 => r' y w H4 Q) else Q (.bl false) H3)
  refine PostE.bind (qa S ρ D σ H F) fun d D1 x H1 k1 F1 h1 => ?_
  refine PostE.bind (qb S ρ D1 σ H1 F1) fun d2 D2 y H2 k2 F2 h2 => ?_
  cases q : g d d2 with
  | none => trivial
  | some z =>
    obtain ⟨b, rfl⟩ := sc _ _ _ q
    have hr := hg S H2 x y d d2 (.bool b) ((h1.kp k2.s).sn F2) (h2.sn F2) F2.dom q
    show PostE C E S ρ σ H2 _ (match PyData.bool b with | .bool true => (fc ρ D2).bind fun u D4 => ofO (g' d2 u) D4 | .bool false => .ok (.bool false) D2 | _ => .stuck) _
    cases b with
    | false =>
      intro Q hq
      refine hr _ fun v H' kk hd => ⟨false, hd.bl_inv, ?_⟩
      exact hq _ H' (.of kk) (F2.grow kk) (.bl _)
    | true =>
      have key : ∀ Q : VK, (∀ H3, Kq C S H2 H3 → Fm C S ρ D2 σ H3 → tc σ H3 fun u H4 => r' y u H4 Q) → r x y H2 fun z H3 => ∃ k, z = .bl k ∧ if k = true then tc σ H3 (fun w H4 => r' y w H4 Q) else Q (.bl false) H3 := fun Q hq => hr _ fun v H' kk hd => ⟨true, hd.bl_inv, hq H' (.of kk) (F2.grow kk)⟩
      have inner : ∀ H3, Kq C S H2 H3 → Fm C S ρ D2 σ H3 → PostE C E S ρ σ H3 (fun v H' d => Dt S H' v d) ((fc ρ D2).bind fun u D4 => ofO (g' d2 u) D4) (fun Q => tc σ H3 fun u H4 => r' y u H4 Q) := fun H3 k3 F3 => by
        refine PostE.bind (qc S ρ D2 σ H3 F3) fun d4 D4 u H4 k4 F4 h4 => ?_
        exact ofO_post F4 fun res e Q hq => hg' S H4 y u d2 d4 res (((h2.kp k3.s).kp k4.s).sn F4) (h4.sn F4) F4.dom e Q hq
      show PostE C E S ρ σ H2 _ ((fc ρ D2).bind fun u D4 => ofO (g' d2 u) D4) _
      generalize hg2 : ((fc ρ D2).bind fun u D4 => ofO (g' d2 u) D4) = rr
      cases rr with
      | stuck => trivial
      | ok d3 D3 =>
        refine fun Q hq => key Q fun H3 k3 F3 => ?_
        have := inner H3 k3 F3
        rw [hg2] at this
        exact this Q fun v H' a b c => hq v H' (k3.trans a) b c
      | err c2 fs D3 =>
        refine fun z Q => key Q fun H3 k3 F3 => ?_
        have := inner H3 k3 F3
        rw [hg2] at this
        exact this z Q
theorem sc_B {f : Int → Int → Bool} : ∀ d e z, gB f d e = some z → ∃ b, z = .bool b := fun d e z h => by
  unfold gB gI at h
  split at h
  · cases h; exact ⟨_, rfl⟩
  · cases h
theorem ve_chain {op op' : CmpOp} {r r' : R2} {g g' : PyData → PyData → Option PyData} (ho : ∀ i, OpR (X i) (compareOp op) r) (ho' : ∀ i, OpR (X i) (compareOp op') r') (hg : DOp2 C r g) (hg' : DOp2 C r' g') (sc : ∀ d e z, g d e = some z → ∃ b, z = .bool b)
    (ha : VB X C E a fa) (hb : VB X C E b fb) (hc : VB X C E c fc) (hp : ∀ i_ ta tb tc, PE (X i_) a ta → PE (X i_) b tb → PE (X i_) c tc → PE (X i_) e (tChain r r' ta tb tc)) : VE X C E e (Ev.chain g g' fa fb fc) := by
  obtain ⟨ta, pa, qa⟩ := ha.ex
  obtain ⟨tb, pb, qb⟩ := hb.ex
  obtain ⟨tc, pc, qc⟩ := hc.ex
  exact ⟨_, (fun i_ => hp i_ ta tb tc (pa i_) (pb i_) (pc i_)), rd_chain hg hg' qa qb qc sc⟩
theorem vt_chain {op op' : CmpOp} {r r' : R2} {g g' : PyData → PyData → Option PyData} (ho : ∀ i, OpR (X i) (compareOp op) r) (ho' : ∀ i, OpR (X i) (compareOp op') r') (hg : DOp2 C r g) (hg' : DOp2 C r' g') (sc : ∀ d e z, g d e = some z → ∃ b, z = .bool b)
    (ha : VB X C E a fa) (hb : VB X C E b fb) (hc : VB X C E c fc) (hp : ∀ i_ ta tb tc, PE (X i_) a ta → PE (X i_) b tb → PE (X i_) c tc → PT (X i_) e (tTest (tChain r r' ta tb tc))) : VT X C E e (Ev.tb (Ev.chain g g' fa fb fc)) := by
  obtain ⟨ta, pa, qa⟩ := ha.ex
  obtain ⟨tb, pb, qb⟩ := hb.ex
  obtain ⟨tc, pc, qc⟩ := hc.ex
  exact ⟨_, (fun i_ => hp i_ ta tb tc (pa i_) (pb i_) (pc i_)), rd_tb (rd_chain hg hg' qa qb qc sc)⟩
end
end Fx
set_option Elab.async false
set_option linter.all false
set_option maxRecDepth 100000
set_option maxHeartbeats 2000000
namespace Fx
open PySem PySem.Spec PyProof.Rows L2 Kb
variable [Nm]
/-! ### several in a row -/
def PostA (C : Ct) (E : XK) (S : List Addr) (ρ : Env) (σ : St) (H : Hp) (r : R (List PyData)) (t : (List V → Hp → Prop) → Prop) : Prop := match r with
  | .stuck => True
  | .ok ds D' => ∀ Q : List V → Hp → Prop, (∀ vs H', Kq C S H H' → Fm C S ρ D' σ H' → DtL S H' vs ds → Q vs H') → t Q
  | .err c fs D' => ErrP C E D' c fs → ∀ Q, t Q
structure VA {ι : Type} (X : ι → Cx) (C : Ct) (E : XK) (es : List Expr) (f : EA) : Prop where
  ex : ∃ t, (∀ i, PA (X i) es t) ∧ ∀ S ρ D σ H, Fm C S ρ D σ H → PostA C E S ρ σ H (f ρ D) (fun Q => t σ H Q)
namespace Ev
def nil : EA := fun _ D => .ok [] D
def cons (a : EX) (r : EA) : EA := fun ρ D => (a ρ D).bind fun x D1 => (r ρ D1).bind fun xs D2 => .ok (x :: xs) D2
def tup (a : EA) : EX := fun ρ D => (a ρ D).bind fun xs D1 => if xs.length ≤ 1000 then .ok (.tuple xs) D1 else .stuck
def lst (a : EA) : EX := fun ρ D => (a ρ D).bind fun xs D1 => if xs.length ≤ 1000 then .ok (.list xs) D1 else .stuck
/-- a def of the text -/
def call (F : List PyData → Dw → R PyData) (a : EA) : EX := fun ρ D => (a ρ D).bind fun ds D1 => F ds D1
end Ev
theorem big1000 {n : Nat} (h : n ≤ 1000) : n ≤ sizeLine := Nat.le_trans h (by rw [sizeLine_eq]; decide)
section
variable {ι : Type} {X : ι → Cx} {C : Ct} {E : XK} {S : List Addr} {ρ : Env} {D : Dw} {σ : St} {H : Hp}
variable {a b c e : Expr} {es rest : List Expr} {pos : Pos} {fa fb fc : EX} {ga gb : EB} {aa : EA}
theorem PostE.bindA {P : V → Hp → PyData → Prop} {r : R PyData} {ta : VK → Prop} {g : PyData → Dw → R (List PyData)} {k : V → Hp → (List V → Hp → Prop) → Prop} (h : PostE C E S ρ σ H P r ta)
    (hk : ∀ d D1 x H1, Kq C S H H1 → Fm C S ρ D1 σ H1 → P x H1 d → PostA C E S ρ σ H1 (g d D1) (fun Q => k x H1 Q)) : PostA C E S ρ σ H (r.bind g) (fun Q => ta fun x H1 => k x H1 Q) := by
  cases r with
  | stuck => trivial
  | err c fs D1 => exact fun e Q => h e _
  | ok d D1 =>
    show PostA C E S ρ σ H (g d D1) _
    have key : ∀ Q, (∀ x H1, Kq C S H H1 → Fm C S ρ D1 σ H1 → P x H1 d → k x H1 Q) → ta fun x H1 => k x H1 Q := fun Q hq => h _ fun v H' a b c => hq v H' a b c
    generalize hg : g d D1 = r2
    cases r2 with
    | stuck => trivial
    | err c fs D2 =>
      refine fun e Q => key Q fun x H1 a b c => ?_
      have := hk d D1 x H1 a b c
      rw [hg] at this
      exact this e Q
    | ok d2 D2 =>
      refine fun Q hq => key Q fun x H1 a b c => ?_
      have := hk d D1 x H1 a b c
      rw [hg] at this
      exact this Q fun vs H' a2 b2 => hq vs H' (a.trans a2) b2
theorem PostA.bindA {r : R (List PyData)} {ta : (List V → Hp → Prop) → Prop} {g : List PyData → Dw → R (List PyData)} {k : List V → Hp → (List V → Hp → Prop) → Prop} (h : PostA C E S ρ σ H r ta)
    (hk : ∀ d D1 x H1, Kq C S H H1 → Fm C S ρ D1 σ H1 → DtL S H1 x d → PostA C E S ρ σ H1 (g d D1) (fun Q => k x H1 Q)) : PostA C E S ρ σ H (r.bind g) (fun Q => ta fun x H1 => k x H1 Q) := by
  cases r with
  | stuck => trivial
  | err c fs D1 => exact fun e Q => h e _
  | ok d D1 =>
    show PostA C E S ρ σ H (g d D1) _
    have key : ∀ Q, (∀ x H1, Kq C S H H1 → Fm C S ρ D1 σ H1 → DtL S H1 x d → k x H1 Q) → ta fun x H1 => k x H1 Q := fun Q hq => h _ fun v H' a b c => hq v H' a b c
    generalize hg : g d D1 = r2
    cases r2 with
    | stuck => trivial
    | err c fs D2 =>
      refine fun e Q => key Q fun x H1 a b c => ?_
      have := hk d D1 x H1 a b c
      rw [hg] at this
      exact this e Q
    | ok d2 D2 =>
      refine fun Q hq => key Q fun x H1 a b c => ?_
      have := hk d D1 x H1 a b c
      rw [hg] at this
      exact this Q fun vs H' a2 b2 => hq vs H' (a.trans a2) b2
theorem PostA.bindE {P : V → Hp → PyData → Prop} {r : R (List PyData)} {ta : (List V → Hp → Prop) → Prop} {g : List PyData → Dw → R PyData} {k : List V → Hp → VK → Prop} (h : PostA C E S ρ σ H r ta)
    (hk : ∀ d D1 x H1, Kq C S H H1 → Fm C S ρ D1 σ H1 → DtL S H1 x d → PostE C E S ρ σ H1 P (g d D1) (fun Q => k x H1 Q)) : PostE C E S ρ σ H P (r.bind g) (fun Q => ta fun x H1 => k x H1 Q) := by
  cases r with
  | stuck => trivial
  | err c fs D1 => exact fun e Q => h e _
  | ok d D1 =>
    show PostE C E S ρ σ H P (g d D1) _
    have key : ∀ Q, (∀ x H1, Kq C S H H1 → Fm C S ρ D1 σ H1 → DtL S H1 x d → k x H1 Q) → ta fun x H1 => k x H1 Q := fun Q hq => h _ fun v H' a b c => hq v H' a b c
    generalize hg : g d D1 = r2
    cases r2 with
    | stuck => trivial
    | err c fs D2 =>
      refine fun e Q => key Q fun x H1 a b c => ?_
      have := hk d D1 x H1 a b c
      rw [hg] at this
      exact this e Q
    | ok d2 D2 =>
      refine fun Q hq => key Q fun x H1 a b c => ?_
      have := hk d D1 x H1 a b c
      rw [hg] at this
      exact this Q fun v H' a2 b2 c2 => hq v H' (a.trans a2) b2 c2
theorem PostA.bindF {r : R (List PyData)} {ta : (List V → Hp → Prop) → Prop} {g : List PyData → Dw → R PyData} {k : List V → Hp → VK → Prop} (F0 : Fm C S ρ D σ H) (h : PostA C E S ρ σ H r ta)
    (hk : ∀ d D1 x H1, Kq C S H H1 → Fm C S ρ D1 σ H1 → DtL S H1 x d → PostF C E S ρ σ H1 (g d D1) (fun Q => k x H1 Q)) : PostF C E S ρ σ H (r.bind g) (fun Q => ta fun x H1 => k x H1 Q) := by
  cases r with
  | stuck => trivial
  | err c fs D1 => exact fun e Q => h e _
  | ok d D1 =>
    show PostF C E S ρ σ H (g d D1) _
    have key : ∀ Q, (∀ x H1, Kq C S H H1 → Fm C S ρ D1 σ H1 → DtL S H1 x d → k x H1 Q) → ta fun x H1 => k x H1 Q := fun Q hq => h _ fun v H' a b c => hq v H' a b c
    generalize hg : g d D1 = r2
    cases r2 with
    | stuck => trivial
    | err c fs D2 =>
      refine fun e Q => key Q fun x H1 a b c => ?_
      have := hk d D1 x H1 a b c
      rw [hg] at this
      exact this e Q
    | ok d2 D2 =>
      refine fun Q hq => key Q fun x H1 a b c => ?_
      have := hk d D1 x H1 a b c
      rw [hg] at this
      refine this Q fun v H' a2 b2 ⟨p, e1, n, e2, e3⟩ => hq v H' (a.trans a2) b2 ⟨p, e1, ?_, e2, e3⟩
      exact up_none F0 a.s n fun m => b.dom p m n
theorem va_nil : VA X C E [] Ev.nil := ⟨_, fun _ => pa_nil, fun S ρ D σ H F Q hq => hq [] H .refl F .nil⟩
theorem va_cons (ha : VE X C E a fa) (hr : VA X C E es aa) (hs : ∀ i, starEach (a :: es) (X i).env = (false, eval a (X i).env) :: starEach es (X i).env := by intro _; rfl) : VA X C E (a :: es) (Ev.cons fa aa) := by
  obtain ⟨ta, pa, qa⟩ := ha.ex
  obtain ⟨tr, pr, qr⟩ := hr.ex
  refine ⟨_, (fun i => pa_cons (pa i) (pr i) (hs i)), fun S ρ D σ H F => ?_⟩
  show PostA C E S ρ σ H _ (fun Q => ta σ H fun x H1 => tr σ H1 fun xs H2 => Q (x :: xs) H2)
  refine PostE.bindA (qa S ρ D σ H F) fun d D1 x H1 k1 F1 h1 => ?_
  refine PostA.bindA (qr S ρ D1 σ H1 F1) fun ds D2 xs H2 k2 F2 h2 => ?_
  exact fun Q hq => hq _ H2 .refl F2 (.cons (h1.kp k2.s) h2)
/-! ### displays -/
theorem ve_tup {x1} (h : VA X C E es aa) : VE X C E (.Tuple es x1 pos) (Ev.tup aa) := by
  obtain ⟨t, p, q⟩ := h.ex
  refine ⟨_, (fun i => pe_tup (p i)), fun S ρ D σ H F => ?_⟩
  show PostE C E S ρ σ H _ _ (fun Q => t σ H fun xs H1 => xs.length ≤ sizeLine ∧ ∀ p, H1 p = none → Q (.ref p) (upd H1 p (.tup xs)))
  refine PostA.bindE (q S ρ D σ H F) fun ds D1 vs H1 k1 F1 h1 => ?_
  split
  · rename_i hl
    refine fun Q hq => ⟨by rw [h1.len]; exact big1000 hl, fun p n => hq _ _ (.new n) (F1.grow (Kp.new n)) (.tup upd_same (h1.kp (Kp.new n)))⟩
  · trivial
/-- a new list: to be one's own -/
theorem fresh_list {vs : List V} {xs : List PyData} {p : Addr} (F : Fm C S ρ D σ H) (n : H p = none) (h : DtL S H vs xs) : Fresh C S ρ D σ H (upd H p (.lst vs)) (.ref p) (.list xs) :=
  ⟨p, rfl, n, F.newS n, .inl ⟨vs, xs, rfl, upd_same, (h.grow n).kp (Kp.new n)⟩⟩
theorem vf_lst (h : VA X C E es aa) : VF X C E (.List es pos) (Ev.lst aa) := by
  obtain ⟨t, p, q⟩ := h.ex
  refine ⟨_, (fun i => pe_lst (p i)), fun S ρ D σ H F => ?_⟩
  show PostF C E S ρ σ H _ (fun Q => t σ H fun xs H1 => xs.length ≤ sizeLine ∧ ∀ p, H1 p = none → Q (.ref p) (upd H1 p (.lst xs)))
  refine PostA.bindF F (q S ρ D σ H F) fun ds D1 vs H1 k1 F1 h1 => ?_
  split
  · rename_i hl
    exact fun Q hq => ⟨by rw [h1.len]; exact big1000 hl, fun p n => hq _ _ (.new n) (F1.grow (Kp.new n)) (fresh_list F1 n h1)⟩
  · trivial
/-- {}: keys that are plain; keys that are tuples -/
theorem vf_dK : VF X C E (.Dict [] [] pos) (Ev.c (.dict [])) := ⟨_, fun _ => pe_dnewK, fun S ρ D σ H F Q hq p n => hq _ _ (.new n) (F.grow (Kp.new n)) ⟨p, rfl, n, F.newS n, .inr (.inl ⟨[], [], rfl, upd_same, .nil⟩)⟩⟩
theorem vf_dT : VF X C E (.Dict [] [] pos) (Ev.c (.dict [mark])) := ⟨_, fun _ => pe_dnewT, fun S ρ D σ H F Q hq p n => hq _ _ (.new n) (F.grow (Kp.new n)) ⟨p, rfl, n, F.newS n, .inr (.inr ⟨[], [], rfl, upd_same, .nil⟩)⟩⟩
/-! ### built-ins by value -/
/-- one argument -/
def DCl1 (C : Ct) (r : List V → Hp → VK → Prop) (g : PyData → Option PyData) : Prop := DOp1 C (fun x H Q => r [x] H Q) g
def DCl2 (C : Ct) (r : List V → Hp → VK → Prop) (g : PyData → PyData → Option PyData) : Prop := DOp2 C (fun x y H Q => r [x, y] H Q) g
/-- .. a new list -/
def DFr1 (C : Ct) (r : V → Hp → VK → Prop) (g : PyData → Option PyData) : Prop := ∀ S H x d res, Sn S H x d → (∀ a ∈ S, H a ≠ none) → g d = some res →
  ∀ Q : VK, (∀ p vs xs, H p = none → res = .list xs → DtL S H vs xs → Q (.ref p) (upd H p (.lst vs))) → r x H Q
theorem ve_cl1 {r : List V → Hp → VK → Prop} {g : PyData → Option PyData} (hp : ∀ i_ ta, PE (X i_) a ta → PE (X i_) e (tCB r (tCons ta tNil))) (hg : DCl1 C r g) (ha : VB X C E a fa) : VE X C E e (Ev.u1 g fa) := by
  obtain ⟨ta, pa, qa⟩ := ha.ex
  refine ⟨_, (fun i_ => hp i_ ta (pa i_)), fun S ρ D σ H F => ?_⟩
  show PostE C E S ρ σ H _ _ (fun Q => ta σ H fun x H1 => r [x] H1 Q)
  refine PostE.bind (qa S ρ D σ H F) fun d D1 x H1 k1 F1 h1 => ?_
  exact ofO_post F1 fun res e Q hq => hg S H1 x d res (h1.sn F1) F1.dom e Q hq
theorem ve_cl2 {r : List V → Hp → VK → Prop} {g : PyData → PyData → Option PyData} (hp : ∀ i_ ta tb, PE (X i_) a ta → PE (X i_) b tb → PE (X i_) e (tCB r (tCons ta (tCons tb tNil)))) (hg : DCl2 C r g) (ha : VB X C E a fa) (hb : VB X C E b fb) : VE X C E e (Ev.o2 g fa fb) := by
  obtain ⟨ta, pa, qa⟩ := ha.ex
  obtain ⟨tb, pb, qb⟩ := hb.ex
  refine ⟨_, (fun i_ => hp i_ ta tb (pa i_) (pb i_)), ?_⟩
  exact rd_o2 (r := fun x y H Q => r [x, y] H Q) hg qa qb
theorem vf_cl1 {r : V → Hp → VK → Prop} {t : TE → TE} {g : PyData → Option PyData} (hp : ∀ i_ ta, PE (X i_) a ta → PE (X i_) e (fun σ H Q => ta σ H fun x H1 => r x H1 Q)) (hg : DFr1 C r g) (ha : VB X C E a fa) : VF X C E e (Ev.u1 g fa) := by
  obtain ⟨ta, pa, qa⟩ := ha.ex
  refine ⟨_, (fun i_ => hp i_ ta (pa i_)), fun S ρ D σ H F => ?_⟩
  refine PostF.bind F (qa S ρ D σ H F) fun d D1 x H1 k1 F1 h1 => ?_
  cases q : g d with
  | none => trivial
  | some res =>
    refine fun Q hq => hg S H1 x d res (h1.sn F1) F1.dom q Q fun p vs xs n er hl => ?_
    subst er
    exact hq _ _ (.new n) (F1.grow (Kp.new n)) (fresh_list F1 n hl)
theorem CallR.or {X : Cx} {f : Value} {r r' : List V → Hp → VK → Prop} (h : CallR X f r) (h' : CallR X f r') : CallR X f (fun xs H Q => r xs H Q ∨ r' xs H Q) := by
  intro pins s σ H xs us Q I rv q
  rcases q with q | q
  · exact h pins s σ H xs us Q I rv q
  · exact h' pins s σ H xs us Q I rv q
/-- len -/
def lenD : PyData → Option PyData
  | .str y => if y.length ≤ sizeLine then some (.int y.length) else none
  | .list xs => some (.int xs.length)
  | .tuple xs => some (.int xs.length)
  | .dict ds => if Ev.isMark ds then none else some (.int ds.length)
  | _ => none
def rLenU (K : PySem.W.Frag) : List V → Hp → VK → Prop := fun xs H Q => (∃ x n, xs = [x] ∧ LenV K x H n ∧ Q (.int n) H) ∨ (∃ a kvs, xs = [V.ref a] ∧ H a = some (.dK kvs) ∧ Q (.int kvs.length) H)
theorem call_lenU {X : Cx} : CallR X (.builtin "len") (rLenU X.K) := CallR.or call_len call_lenD
theorem DtK.len {kvs : List (Key × V)} {ds : List (PyData × PyData)} (h : DtK S H kvs ds) : kvs.length = ds.length := by
  match kvs, ds, h with
  | [], [], .nil => rfl
  | _ :: _, _ :: _, .cons _ r => exact congrArg (· + 1) (DtK.len r)
theorem d_len : DCl1 C (rLenU C.G.K) lenD := by
  intro S H x d res hx hS hr Q hq
  unfold lenD at hr
  split at hr
  · split at hr
    · rename_i hl
      cases hr
      rw [hx.str_inv]
      exact .inl ⟨_, _, rfl, ⟨hl, rfl⟩, hq _ _ .refl (.int _)⟩
    · cases hr
  · cases hr
    obtain ⟨a, vs, rfl, ea, hd⟩ := hx.lst_inv
    refine .inl ⟨_, vs.length, rfl, .inl ⟨vs, sqL ea, rfl⟩, ?_⟩
    rw [hd.len]
    exact hq _ _ .refl (.int _)
  · cases hr
    obtain ⟨a, vs, rfl, ea, hd⟩ := hx.tup_inv
    refine .inl ⟨_, vs.length, rfl, .inr ⟨vs, sqT ea, rfl⟩, ?_⟩
    rw [hd.len]
    exact hq _ _ .refl (.int _)
  · split at hr
    · cases hr
    · rename_i hm
      cases hr
      obtain ⟨a, rfl, ⟨kvs, ea, hd⟩ | ⟨kvs, r, rfl, _, _⟩ | ⟨c, r, rfl⟩⟩ := hx.dct_inv
      · refine .inr ⟨a, kvs, rfl, ea, ?_⟩
        rw [hd.len]
        exact hq _ _ .refl (.int _)
      · exact absurd rfl hm
      · exact absurd rfl hm
  · cases hr
theorem ve_len {x : Str} {p pos : Pos} (hc : Xc X C) (ha : VB X C E a fa) (hp : ∀ i_ ta, PE (X i_) a ta → PE (X i_) e (tCB (rLenU C.G.K) (tCons ta tNil))) : VE X C E e (Ev.u1 lenD fa) := ve_cl1 hp d_len ha
/-- isinstance(x, T) -/
def isiD (T : String) (d : PyData) : Option PyData := if isErrD d = true then none else (kitB (tyD d) T).map .bool
theorem ve_isi {T : String} {fb : EX} (hc : Xc X C) (ha : VB X C E a fa) (hp : ∀ i_ ta, PE (X i_) a ta → PE (X i_) e (tCB (rIsi C.G.K) (tCons ta (tCons (tC (.ty T)) tNil)))) : VE X C E e (Ev.u1 (isiD T) fa) := by
  obtain ⟨ta, pa, qa⟩ := ha.ex
  refine ⟨_, (fun i_ => hp i_ ta (pa i_)), fun S ρ D σ H F => ?_⟩
  show PostE C E S ρ σ H _ _ (fun Q => ta σ H fun x H1 => rIsi C.G.K [x, .ty T] H1 Q)
  refine PostE.bind (qa S ρ D σ H F) fun d D1 x H1 k1 F1 h1 => ?_
  refine ofO_post F1 fun res e Q hq => ?_
  unfold isiD at e
  split at e
  · cases e
  rename_i ne
  have ne : isErrD d = false := by simpa using ne
  cases q : kitB (tyD d) T with
  | none => rw [q] at e; cases e
  | some k =>
    rw [q] at e
    cases e
    exact ⟨x, .ty T, _, _, k, rfl, .ty T, (h1.sn F1).ty ne, kit_ty q, hq _ _ .refl (.bl _)⟩
end
end Fx
set_option Elab.async false
set_option linter.all false
set_option maxRecDepth 100000
set_option maxHeartbeats 2000000
namespace Fx
open PySem PySem.Spec PyProof.Rows L2 Kb
variable [Nm]
/-! ### statements -/
inductive Out where
  | nx
  | ret (d : PyData)
  | brk
  | ct
abbrev ST := Env → Dw → R (Out × Env)
/-- what was, is; what is to be left alone is older, or new -/
structure Ext (S : List Addr) (H : Hp) (S' : List Addr) (H' : Hp) : Prop where
  kp : Kp S H H'
  sub : ∀ b ∈ S', b ∈ S ∨ H b = none
section
variable {S S' S2 : List Addr} {H H' H2 : Hp}
theorem Ext.refl : Ext S H S H := ⟨.refl, fun _ m => .inl m⟩
theorem Ext.of (k : Kp S H H') : Ext S H S H' := ⟨k, fun _ m => .inl m⟩
theorem Ext.trans (a : Ext S H S' H') (b : Ext S' H' S2 H2) : Ext S H S2 H2 := by
  refine ⟨fun x o e h => ?_, fun x m => ?_⟩
  · refine b.kp x o (a.kp x o e h) (h.imp id fun n m => ?_)
    rcases a.sub x m with z | z
    · exact n z
    · exact noNone e z
  · rcases b.sub x m with z | z
    · exact a.sub x z
    · by_cases mx : x ∈ S
      · exact .inl mx
      · refine .inr ?_
        cases e : H x with
        | none => rfl
        | some o => exact noNone (a.kp.there mx e) z
theorem Ext.dt (e : Ext S H S' H') {v : V} {d : PyData} (h : Dt S H v d) : Dt S' H' v d := h.mk e.kp e.sub
theorem Ext.dtL (e : Ext S H S' H') {v : List V} {d : List PyData} (h : DtL S H v d) : DtL S' H' v d := h.mk e.kp e.sub
end
/-- what is returned, told to the caller -/
def Rv (C : Ct) (fr : Bool) (H : Hp) (v : V) (d : PyData) : Prop := if fr = true then
    ∃ p, v = .ref p ∧ C.H0 p = none ∧ p ∉ C.ch ∧ p ∉ C.U ∧ ((∃ vs xs, d = .list xs ∧ H p = some (.lst vs) ∧ DtL (p :: (C.ch ++ C.U)) H vs xs) ∨ (∃ vs xs, d = .dict xs ∧ H p = some (.dK vs) ∧ DtK (p :: (C.ch ++ C.U)) H vs xs) ∨ (∃ vs xs, d = .dict (mark :: xs) ∧ H p = some (.dT vs) ∧ DtT (p :: (C.ch ++ C.U)) H vs xs))
  else Dt (C.ch ++ C.U) H v d
structure EndOk (C : Ct) (D : Dw) (H : Hp) : Prop where
  kp : Kp C.ch C.H0 H
  tb : TbOk C.G H
  dr : DrO C.dr H D
theorem Fm.end {C : Ct} {S : List Addr} {ρ : Env} {D : Dw} {σ : St} {H : Hp} (F : Fm C S ρ D σ H) : EndOk C D H := ⟨F.kp, F.tb, F.dr⟩
def PostS (C : Ct) (E : XK) (fr : Bool) (S : List Addr) (H : Hp) (Dn : Ends) (r : R (Out × Env)) (t : Prop) : Prop := match r with
  | .stuck => True
  | .ok (.nx, ρ') D' => (∀ S' σ' H', Ext S H S' H' → Fm C S' ρ' D' σ' H' → Dn.nx σ' H') → t
  | .ok (.brk, ρ') D' => (∀ S' σ' H', Ext S H S' H' → Fm C S' ρ' D' σ' H' → Dn.bk σ' H') → t
  | .ok (.ct, ρ') D' => (∀ S' σ' H', Ext S H S' H' → Fm C S' ρ' D' σ' H' → Dn.ct σ' H') → t
  | .ok (.ret d, _) D' => (∀ v H', EndOk C D' H' → Rv C fr H' v d → Dn.rt v H') → t
  | .err c fs D' => ErrP C E D' c fs → t
abbrev RdS (C : Ct) (E : XK) (fr : Bool) (t : TS) (f : ST) : Prop := ∀ S ρ D σ H Dn, Fm C S ρ D σ H → PostS C E fr S H Dn (f ρ D) (t Dn σ H)
structure VS {ι : Type} (X : ι → Cx) (C : Ct) (E : XK) (fr : Bool) (st : Stmt) (f : ST) : Prop where
  ex : ∃ t, (∀ i, PS (X i) st t) ∧ RdS C E fr t f
structure VSs {ι : Type} (X : ι → Cx) (C : Ct) (E : XK) (fr : Bool) (st : List Stmt) (f : ST) : Prop where
  ex : ∃ t, (∀ i, PSs (X i) st t) ∧ RdS C E fr t f
namespace Sv
def skip : ST := fun ρ D => .ok (.nx, ρ) D
def seq (f g : ST) : ST := fun ρ D => (f ρ D).bind fun p D1 => match p with
  | (.nx, ρ1) => g ρ1 D1
  | q => .ok q D1
def set (i : Nat) (a : EX) : ST := fun ρ D => (a ρ D).bind fun d D1 => .ok (.nx, ρ.set i (some (.d d))) D1
/-- to be one's own -/
def ownT : PyData → Option T
  | .list xs => some (.l xs)
  | .dict ((.none, .none) :: r) => some (.mt r)
  | .dict ds => some (.m ds)
  | _ => none
def setO (i : Nat) (a : EX) : ST := fun ρ D => (a ρ D).bind fun d D1 => (ofO (ownT d) D1).bind fun t D2 => .ok (.nx, ρ.set i (some t)) D2
def ret (a : EX) : ST := fun ρ D => (a ρ D).bind fun d D1 => .ok (.ret d, ρ) D1
def retN : ST := fun ρ D => .ok (.ret .none, ρ) D
/-- a name's own list, dict -/
def retO (i : Nat) : ST := fun ρ D => match ρ[i]? with
  | some (some t) => if own t = true then (ofO (view t) D).bind fun d D1 => .ok (.ret d, ρ) D1 else .stuck
  | _ => .stuck
def drop (a : EX) : ST := fun ρ D => (a ρ D).bind fun _ D1 => .ok (.nx, ρ) D1
def ite (t : EB) (f g : ST) : ST := fun ρ D => (t ρ D).bind fun b D1 => if b = true then f ρ D1 else g ρ D1
def brk : ST := fun ρ D => .ok (.brk, ρ) D
def ct : ST := fun ρ D => .ok (.ct, ρ) D
/-- what is one's own is from now on data -/
def frz (i : Nat) (f : ST) : ST := fun ρ D => match ρ[i]? with
  | some (some t) => match view t with
    | some d => f (ρ.set i (some (.d d))) D
    | none => f ρ D
  | _ => f ρ D
end Sv
section
variable {ι : Type} {X : ι → Cx} {C : Ct} {E : XK} {fr : Bool} {S : List Addr} {ρ : Env} {D : Dw} {σ : St} {H : Hp} {Dn : Ends}
variable {a b c e : Expr} {st : Stmt} {rest sts sts' : List Stmt} {es : List Expr} {pos : Pos} {fa fb fc : EX} {ga gb : EB} {aa : EA} {f g : ST}
/-- from an expression's reading to a statement's -/
theorem PostE.bindS {P : V → Hp → PyData → Prop} {r : R PyData} {ta : VK → Prop} {g : PyData → Dw → R (Out × Env)} {k : V → Hp → Prop} (h : PostE C E S ρ σ H P r ta)
    (hk : ∀ d D1 x H1, Kq C S H H1 → Fm C S ρ D1 σ H1 → P x H1 d → PostS C E fr S H1 Dn (g d D1) (k x H1)) : PostS C E fr S H Dn (r.bind g) (ta k) := by
  cases r with
  | stuck => trivial
  | err c fs D1 => exact fun e => h e _
  | ok d D1 =>
    show PostS C E fr S H Dn (g d D1) (ta k)
    generalize hg : g d D1 = r2
    have hk2 : ∀ x H1, Kq C S H H1 → Fm C S ρ D1 σ H1 → P x H1 d → PostS C E fr S H1 Dn r2 (k x H1) := fun x H1 a b c => by rw [← hg]; exact hk d D1 x H1 a b c
    cases r2 with
    | stuck => trivial
    | err c fs D2 => exact fun e => h _ fun x H1 a b c => hk2 x H1 a b c e
    | ok p D2 =>
      obtain ⟨o, ρ2⟩ := p
      cases o with
      | nx => exact fun q => h _ fun x H1 a b c => hk2 x H1 a b c fun S' σ' H' e F => q S' σ' H' ((Ext.of a.s).trans e) F
      | brk => exact fun q => h _ fun x H1 a b c => hk2 x H1 a b c fun S' σ' H' e F => q S' σ' H' ((Ext.of a.s).trans e) F
      | ct => exact fun q => h _ fun x H1 a b c => hk2 x H1 a b c fun S' σ' H' e F => q S' σ' H' ((Ext.of a.s).trans e) F
      | ret d2 => exact fun q => h _ fun x H1 a b c => hk2 x H1 a b c q
theorem PostT.bindS {r : R Bool} {ta : (Bool → Hp → Prop) → Prop} {g : Bool → Dw → R (Out × Env)} {k : Bool → Hp → Prop} (h : PostT C E S ρ σ H r ta)
    (hk : ∀ d D1 H1, Kq C S H H1 → Fm C S ρ D1 σ H1 → PostS C E fr S H1 Dn (g d D1) (k d H1)) : PostS C E fr S H Dn (r.bind g) (ta k) := by
  cases r with
  | stuck => trivial
  | err c fs D1 => exact fun e => h e _
  | ok d D1 =>
    show PostS C E fr S H Dn (g d D1) (ta k)
    generalize hg : g d D1 = r2
    have hk2 : ∀ H1, Kq C S H H1 → Fm C S ρ D1 σ H1 → PostS C E fr S H1 Dn r2 (k d H1) := fun H1 a b => by rw [← hg]; exact hk d D1 H1 a b
    cases r2 with
    | stuck => trivial
    | err c fs D2 => exact fun e => h _ fun H1 a b => hk2 H1 a b e
    | ok p D2 =>
      obtain ⟨o, ρ2⟩ := p
      cases o with
      | nx => exact fun q => h _ fun H1 a b => hk2 H1 a b fun S' σ' H' e F => q S' σ' H' ((Ext.of a.s).trans e) F
      | brk => exact fun q => h _ fun H1 a b => hk2 H1 a b fun S' σ' H' e F => q S' σ' H' ((Ext.of a.s).trans e) F
      | ct => exact fun q => h _ fun H1 a b => hk2 H1 a b fun S' σ' H' e F => q S' σ' H' ((Ext.of a.s).trans e) F
      | ret d2 => exact fun q => h _ fun H1 a b => hk2 H1 a b q
theorem PostF.bindS {r : R PyData} {ta : VK → Prop} {g : PyData → Dw → R (Out × Env)} {k : V → Hp → Prop} (h : PostF C E S ρ σ H r ta)
    (hk : ∀ d D1 x H1, Kq C S H H1 → Fm C S ρ D1 σ H1 → Fresh C S ρ D1 σ H H1 x d → PostS C E fr S H Dn (g d D1) (k x H1)) : PostS C E fr S H Dn (r.bind g) (ta k) := by
  cases r with
  | stuck => trivial
  | err c fs D1 => exact fun e => h e _
  | ok d D1 =>
    show PostS C E fr S H Dn (g d D1) (ta k)
    generalize hg : g d D1 = r2
    have hk2 : ∀ x H1, Kq C S H H1 → Fm C S ρ D1 σ H1 → Fresh C S ρ D1 σ H H1 x d → PostS C E fr S H Dn r2 (k x H1) := fun x H1 a b c => by rw [← hg]; exact hk d D1 x H1 a b c
    cases r2 with
    | stuck => trivial
    | err c fs D2 => exact fun e => h _ fun x H1 a b c => hk2 x H1 a b c e
    | ok p D2 =>
      obtain ⟨o, ρ2⟩ := p
      cases o with
      | nx => exact fun q => h _ fun x H1 a b c => hk2 x H1 a b c q
      | brk => exact fun q => h _ fun x H1 a b c => hk2 x H1 a b c q
      | ct => exact fun q => h _ fun x H1 a b c => hk2 x H1 a b c q
      | ret d2 => exact fun q => h _ fun x H1 a b c => hk2 x H1 a b c q
/-! ### one after another -/
theorem vss_nil : VSs X C E fr [] Sv.skip := ⟨_, fun _ => pss_nil, fun S ρ D σ H Dn F q => q S σ H .refl F⟩
theorem rd_seq {t u : TS} (q : RdS C E fr t f) (q' : RdS C E fr u g) : RdS C E fr (tSeq t u) (Sv.seq f g) := by
  intro S ρ D σ H Dn F
  have A := fun Dn => q S ρ D σ H Dn F
  show PostS C E fr S H Dn ((f ρ D).bind fun p D1 => match p with | (.nx, ρ1) => g ρ1 D1 | q => .ok q D1) (t { Dn with nx := u Dn } σ H)
  generalize f ρ D = r at A
  cases r with
  | stuck => trivial
  | err c fs D1 => exact A _
  | ok p D1 =>
    obtain ⟨o, ρ1⟩ := p
    cases o with
    | brk => exact A { Dn with nx := u Dn }
    | ct => exact A { Dn with nx := u Dn }
    | ret d => exact A { Dn with nx := u Dn }
    | nx =>
      show PostS C E fr S H Dn (g ρ1 D1) _
      have A : (∀ S' σ' H', Ext S H S' H' → Fm C S' ρ1 D1 σ' H' → u Dn σ' H') → t { Dn with nx := u Dn } σ H := A { Dn with nx := u Dn }
      have B := fun S' σ' H' (F' : Fm C S' ρ1 D1 σ' H') => q' S' ρ1 D1 σ' H' Dn F'
      generalize g ρ1 D1 = r2 at B
      cases r2 with
      | stuck => trivial
      | err c fs D2 => exact fun e => A fun S' σ' H' x F' => B S' σ' H' F' e
      | ok p2 D2 =>
        obtain ⟨o2, ρ2⟩ := p2
        cases o2 with
        | nx => exact fun k => A fun S' σ' H' x F' => B S' σ' H' F' fun S2 σ2 H2 x2 F2 => k S2 σ2 H2 (x.trans x2) F2
        | brk => exact fun k => A fun S' σ' H' x F' => B S' σ' H' F' fun S2 σ2 H2 x2 F2 => k S2 σ2 H2 (x.trans x2) F2
        | ct => exact fun k => A fun S' σ' H' x F' => B S' σ' H' F' fun S2 σ2 H2 x2 F2 => k S2 σ2 H2 (x.trans x2) F2
        | ret d => exact fun k => A fun S' σ' H' x F' => B S' σ' H' F' k
theorem vss_cons (h : VS X C E fr st f) (h' : VSs X C E fr rest g) : VSs X C E fr (st :: rest) (Sv.seq f g) := let ⟨_, p, q⟩ := h.ex; let ⟨_, p', q'⟩ := h'.ex; ⟨_, fun i => pss_cons (p i) (p' i), rd_seq q q'⟩
theorem vss_one (h : VS X C E fr st f) : VSs X C E fr [st] f := let ⟨_, p, q⟩ := h.ex; ⟨_, fun i => pss_one (p i), q⟩
theorem vs_pass : VS X C E fr (.Pass pos) Sv.skip := ⟨_, fun _ => ps_pass, fun S ρ D σ H Dn F q => q S σ H .refl F⟩
theorem vs_break : VS X C E fr (.Break pos) Sv.brk := ⟨_, fun _ => ps_break, fun S ρ D σ H Dn F q => q S σ H .refl F⟩
theorem vs_continue : VS X C E fr (.Continue pos) Sv.ct := ⟨_, fun _ => ps_continue, fun S ρ D σ H Dn F q => q S σ H .refl F⟩
theorem vs_doc {x j pos pos'} : VS X C E fr (.Expr (.Constant (.str x) j pos) pos') Sv.skip := ⟨_, fun _ => ps_doc, fun S ρ D σ H Dn F q => q S σ H .refl F⟩
theorem vs_if (ht : VT X C E c ga) (h1 : VSs X C E fr sts f) (h2 : VSs X C E fr sts' g) : VS X C E fr (.If c sts sts' pos) (Sv.ite ga f g) := by
  obtain ⟨tc, pc, qc⟩ := ht.ex
  obtain ⟨t1, p1, q1⟩ := h1.ex
  obtain ⟨t2, p2, q2⟩ := h2.ex
  refine ⟨_, (fun i => ps_if (pc i) (p1 i) (p2 i)), fun S ρ D σ H Dn F => ?_⟩
  show PostS C E fr S H Dn _ (tc σ H fun b H1 => if b = true then t1 Dn σ H1 else t2 Dn σ H1)
  refine PostT.bindS (qc S ρ D σ H F) fun b D1 H1 k1 F1 => ?_
  cases b with
  | true => exact q1 S ρ D1 σ H1 Dn F1
  | false => exact q2 S ρ D1 σ H1 Dn F1
/-! ### names -/
theorem Fm.setD {i : Nat} {v : V} {d : PyData} (F : Fm C S ρ D σ H) (h : Dt S H v d) : Fm C S (ρ.set i (some (.d d))) D (σ.set i (some v)) H where
  len := by rw [List.length_set, List.length_set, F.len]
  slot := fun j t e => by
    by_cases hj : i = j
    · subst hj
      have hi : i < ρ.length := by
        have := (List.getElem?_eq_some_iff.mp e).1
        rwa [List.length_set] at this
      rw [List.getElem?_set_self hi] at e
      cases e
      exact ⟨v, List.getElem?_set_self (by rw [F.len]; exact hi), h⟩
    · rw [List.getElem?_set_ne hj] at e ⊢
      exact F.slot j t e
  uniq := fun j k t u w hjk e1 e2 o1 o2 s1 s2 => by
    by_cases hj : i = j
    · subst hj
      have hi : i < ρ.length := by
        have := (List.getElem?_eq_some_iff.mp e1).1
        rwa [List.length_set] at this
      rw [List.getElem?_set_self hi] at e1
      cases e1
      cases o1
    · by_cases hk : i = k
      · subst hk
        have hi : i < ρ.length := by
          have := (List.getElem?_eq_some_iff.mp e2).1
          rwa [List.length_set] at this
        rw [List.getElem?_set_self hi] at e2
        cases e2
        cases o2
      · rw [List.getElem?_set_ne hj] at e1 s1
        rw [List.getElem?_set_ne hk] at e2 s2
        exact F.uniq j k t u w hjk e1 e2 o1 o2 s1 s2
  base := F.base
  dom := F.dom
  kp := F.kp
  tb := F.tb
  dr := F.dr
  drc := F.drc
theorem vs_set {i : Nat} {x : Str} {pos' : Pos} (hp : ∀ i_ ta, PE (X i_) e ta → PS (X i_) st (tAsg ta (gName i))) (h : VE X C E e fa) : VS X C E fr st (Sv.set i fa) := by
  obtain ⟨ta, pa, qa⟩ := h.ex
  refine ⟨_, (fun i_ => hp i_ ta (pa i_)), fun S ρ D σ H Dn F => ?_⟩
  show PostS C E fr S H Dn _ (ta σ H fun x H1 => Dn.nx (σ.set i (some x)) H1)
  exact PostE.bindS (qa S ρ D σ H F) fun d D1 v H1 k1 F1 h1 q => q S _ H1 .refl (F1.setD h1)
/-- a new thing, to be one's own -/
theorem Fm.setO {i p : Nat} {t : T} (F : Fm C (p :: S) ρ D σ H) (np : p ∉ S) (hS : ∀ (j : Nat) (u : T) (v : V), ρ[j]? = some (some u) → own u = true → σ[j]? = some (some v) → ∃ a, v = .ref a ∧ a ∈ S) (ho : own t = true) (h : Rt C (p :: S) H (.ref p) t) : Fm C (p :: S) (ρ.set i (some t)) D (σ.set i (some (.ref p))) H where
  len := by rw [List.length_set, List.length_set, F.len]
  slot := fun j u e => by
    by_cases hj : i = j
    · subst hj
      have hi : i < ρ.length := by
        have := (List.getElem?_eq_some_iff.mp e).1
        rwa [List.length_set] at this
      rw [List.getElem?_set_self hi] at e
      cases e
      exact ⟨_, List.getElem?_set_self (by rw [F.len]; exact hi), h⟩
    · rw [List.getElem?_set_ne hj] at e ⊢
      exact F.slot j u e
  uniq := fun j k t' u w hjk e1 e2 o1 o2 s1 s2 => by
    have key : ∀ (j k : Nat) (t' u : T) (w : V), i = j → i ≠ k → (ρ.set i (some t))[j]? = some (some t') → ρ[k]? = some (some u) → own u = true → (σ.set i (some (.ref p)))[j]? = some (some w) → σ[k]? = some (some w) → False := fun j k t' u w hj hk e1 e2 o2 s1 s2 => by
      subst hj
      have hi : i < ρ.length := by
        have := (List.getElem?_eq_some_iff.mp e1).1
        rwa [List.length_set] at this
      rw [List.getElem?_set_self (by rw [F.len]; exact hi)] at s1
      cases s1
      obtain ⟨a, ea, ma⟩ := hS k u _ e2 o2 s2
      cases ea
      exact np ma
    by_cases hj : i = j
    · have hk : i ≠ k := fun z => hjk (hj.symm.trans z)
      rw [List.getElem?_set_ne hk] at e2 s2
      exact key j k t' u w hj hk e1 e2 o2 s1 s2
    · by_cases hk : i = k
      · rw [List.getElem?_set_ne hj] at e1 s1
        exact key k j u t' w hk hj e2 e1 o1 s2 s1
      · rw [List.getElem?_set_ne hj] at e1 s1
        rw [List.getElem?_set_ne hk] at e2 s2
        exact F.uniq j k t' u w hjk e1 e2 o1 o2 s1 s2
  base := F.base
  dom := F.dom
  kp := F.kp
  tb := F.tb
  dr := F.dr
  drc := F.drc
theorem Fm.ownS (F : Fm C S ρ D σ H) {j : Nat} {u : T} {v : V} (e : ρ[j]? = some (some u)) (o : own u = true) (s : σ[j]? = some (some v)) : ∃ a, v = .ref a ∧ a ∈ S := by
  obtain ⟨v', e', h⟩ := F.slot j u e
  rw [s] at e'; cases e'
  cases u with
  | l xs => obtain ⟨a, vs, rfl, _, _, m, _⟩ := h; exact ⟨a, rfl, m⟩
  | m xs => obtain ⟨a, vs, rfl, _, _, m, _⟩ := h; exact ⟨a, rfl, m⟩
  | mt xs => obtain ⟨a, vs, rfl, _, _, m, _⟩ := h; exact ⟨a, rfl, m⟩
  | _ => cases o
theorem ownT_inv {d : PyData} {t : T} (h : Sv.ownT d = some t) : own t = true ∧ view t = some d := by
  unfold Sv.ownT at h
  split at h <;> cases h <;> exact ⟨rfl, rfl⟩
/-- what is fresh, at a name -/
theorem Fresh.setO {i : Nat} {H1 : Hp} {D1 : Dw} {v : V} {d : PyData} {t : T} (F : Fm C S ρ D σ H) (F1 : Fm C S ρ D1 σ H1) (h : Fresh C S ρ D1 σ H H1 v d) (e : Sv.ownT d = some t) : ∃ p, H p = none ∧ Fm C (p :: S) (ρ.set i (some t)) D1 (σ.set i (some v)) H1 := by
  obtain ⟨p, rfl, n, Fp, hc⟩ := h
  have np : p ∉ S := fun m => F.dom p m n
  have h0 := F.ch0 n
  have nch : p ∉ C.ch := fun m => np (F.base p (.inl m))
  have nU : p ∉ C.U := fun m => np (F.base p (.inr m))
  have mp : p ∈ p :: S := List.mem_cons_self
  obtain ⟨ho, _⟩ := ownT_inv e
  refine ⟨p, n, Fp.setO np (fun j u v e1 o1 s1 => F1.ownS e1 o1 s1) ho ?_⟩
  rcases hc with ⟨vs, xs, rfl, ea, hd⟩ | ⟨vs, xs, rfl, ea, hd⟩ | ⟨vs, xs, rfl, ea, hd⟩
  · cases e
    exact ⟨p, vs, rfl, ea, hd, mp, nch, nU, h0⟩
  · have : t = .m xs := by
      cases hd with
      | nil => cases e; rfl
      | @cons k v vs d ds h r => cases k <;> cases e <;> rfl
    subst this
    exact ⟨p, vs, rfl, ea, hd, mp, nch, nU, h0⟩
  · cases e
    exact ⟨p, vs, rfl, ea, hd, mp, nch, nU, h0⟩
theorem vs_setO {i : Nat} (hp : ∀ i_ ta, PE (X i_) e ta → PS (X i_) st (tAsg ta (gName i))) (h : VF X C E e fa) : VS X C E fr st (Sv.setO i fa) := by
  obtain ⟨ta, pa, qa⟩ := h.ex
  refine ⟨_, (fun i_ => hp i_ ta (pa i_)), fun S ρ D σ H Dn F => ?_⟩
  show PostS C E fr S H Dn _ (ta σ H fun x H1 => Dn.nx (σ.set i (some x)) H1)
  refine PostF.bindS (qa S ρ D σ H F) fun d D1 v H1 k1 F1 h1 => ?_
  cases q : Sv.ownT d with
  | none => trivial
  | some t =>
    obtain ⟨p, n, F2⟩ := h1.setO (i := i) F F1 q
    exact fun k => k _ _ H1 ⟨k1.s, fun b m => (List.mem_cons.mp m).elim (fun z => .inr (z ▸ n)) .inl⟩ F2
/-! ### return -/
theorem vs_ret (h : VE X C E e fa) : VS X C E false (.Return (some e) pos) (Sv.ret fa) := by
  obtain ⟨ta, pa, qa⟩ := h.ex
  refine ⟨_, (fun i => ps_ret (pa i)), fun S ρ D σ H Dn F => ?_⟩
  show PostS C E false S H Dn _ (ta σ H fun v H1 => Dn.rt v H1)
  exact PostE.bindS (qa S ρ D σ H F) fun d D1 v H1 k1 F1 h1 q => q v H1 F1.end (h1.sub fun b m => F1.base b (List.mem_append.mp m))
theorem vs_retF (h : VF X C E e fa) : VS X C E true (.Return (some e) pos) (Sv.ret fa) := by
  obtain ⟨ta, pa, qa⟩ := h.ex
  refine ⟨_, (fun i => ps_ret (pa i)), fun S ρ D σ H Dn F => ?_⟩
  show PostS C E true S H Dn _ (ta σ H fun v H1 => Dn.rt v H1)
  refine PostF.bindS (qa S ρ D σ H F) fun d D1 v H1 k1 F1 ⟨p, ev, n, Fp, hc⟩ q => q v H1 F1.end ?_
  have np : p ∉ S := fun m => F.dom p m n
  have sub : ∀ b ∈ p :: (C.ch ++ C.U), b ∈ p :: S := fun b m => (List.mem_cons.mp m).elim (fun z => z ▸ List.mem_cons_self) fun z => List.mem_cons_of_mem _ (F.base b (List.mem_append.mp z))
  refine ⟨p, ev, F.ch0 n, fun m => np (F.base p (.inl m)), fun m => np (F.base p (.inr m)), ?_⟩
  rcases hc with ⟨vs, xs, h1, h2, h3⟩ | ⟨vs, xs, h1, h2, h3⟩ | ⟨vs, xs, h1, h2, h3⟩
  · exact .inl ⟨vs, xs, h1, h2, h3.sub sub⟩
  · exact .inr (.inl ⟨vs, xs, h1, h2, h3.mk .refl fun b m => .inl (sub b m)⟩)
  · exact .inr (.inr ⟨vs, xs, h1, h2, h3.mk .refl fun b m => .inl (sub b m)⟩)
theorem vs_retN : VS X C E false (.Return none pos) Sv.retN := ⟨_, fun _ => ps_retN, fun S ρ D σ H Dn F q => q .non H F.end (.non : Dt _ _ _ _)⟩
theorem vs_retO {i : Nat} {x : Str} {px : Pos} (h : ∀ i_, PE (X i_) (.Name x px) (tVar i)) : VS X C E true (.Return (some (.Name x px)) pos) (Sv.retO i) := by
  refine ⟨_, fun i_ => ps_ret (h i_), fun S ρ D σ H Dn F => ?_⟩
  show PostS C E true S H Dn (Sv.retO i ρ D) (∃ v, σ[i]? = some (some v) ∧ Dn.rt v H)
  unfold Sv.retO
  split
  · rename_i t e
    split
    · rename_i ho
      obtain ⟨v, e1, h1⟩ := F.slot i t e
      have cons : ∀ {a : Addr}, a ∈ S → ∀ b ∈ a :: (C.ch ++ C.U), b ∈ S := fun ma b m => (List.mem_cons.mp m).elim (fun z => z ▸ ma) fun z => F.base b (List.mem_append.mp z)
      cases t with
      | l xs =>
        obtain ⟨a, vs, rfl, ea, hd, m, n1, n2, n3⟩ := h1
        exact fun q => ⟨_, e1, q _ H F.end ⟨a, rfl, n3, n1, n2, .inl ⟨vs, xs, rfl, ea, hd.sub (cons m)⟩⟩⟩
      | m xs =>
        obtain ⟨a, vs, rfl, ea, hd, m, n1, n2, n3⟩ := h1
        exact fun q => ⟨_, e1, q _ H F.end ⟨a, rfl, n3, n1, n2, .inr (.inl ⟨vs, xs, rfl, ea, hd.mk .refl fun b z => .inl (cons m b z)⟩)⟩⟩
      | mt xs =>
        obtain ⟨a, vs, rfl, ea, hd, m, n1, n2, n3⟩ := h1
        exact fun q => ⟨_, e1, q _ H F.end ⟨a, rfl, n3, n1, n2, .inr (.inr ⟨vs, xs, rfl, ea, hd.mk .refl fun b z => .inl (cons m b z)⟩)⟩⟩
      | _ => cases ho
    · trivial
  · trivial
theorem vs_expr (h : VE X C E e fa) (hs : ∀ i, swapsWith e none pos.line (X i).env = pure false := by intro _; rfl) : VS X C E fr (.Expr e pos) (Sv.drop fa) := by
  obtain ⟨ta, pa, qa⟩ := h.ex
  refine ⟨_, (fun i => ps_expr (pa i) (hs i)), fun S ρ D σ H Dn F => ?_⟩
  show PostS C E fr S H Dn _ (ta σ H fun _ H1 => Dn.nx σ H1)
  exact PostE.bindS (qa S ρ D σ H F) fun d D1 v H1 k1 F1 h1 q => q S _ H1 .refl F1
end
end Fx
set_option Elab.async false
set_option linter.all false
set_option maxRecDepth 100000
set_option maxHeartbeats 2000000
namespace Fx
open PySem PySem.Spec PyProof.Rows L2 Kb
variable [Nm]
namespace Sv
def append (i : Nat) (a : EX) : ST := fun ρ D => match ρ[i]? with
  | some (some (.l xs)) => (a ρ D).bind fun d D1 => if xs.length < 10000000 then .ok (.nx, ρ.set i (some (.l (xs ++ [d])))) D1 else .stuck
  | _ => .stuck
def extend (i : Nat) (a : EX) : ST := fun ρ D => match ρ[i]? with
  | some (some (.l xs)) => (a ρ D).bind fun d D1 => match d with
    | .list ys => if xs.length + ys.length < 10000000 then .ok (.nx, ρ.set i (some (.l (xs ++ ys)))) D1 else .stuck
    | _ => .stuck
  | _ => .stuck
/-- x = xs.pop() -/
def popTo (j i : Nat) : ST := fun ρ D => match ρ[i]? with
  | some (some (.l xs)) => match xs[xs.length - 1]? with
    | some d => if i ≠ j then .ok (.nx, (ρ.set i (some (.l xs.dropLast))).set j (some (.d d))) D else .stuck
    | none => .stuck
  | _ => .stuck
def popDrop (i : Nat) : ST := fun ρ D => match ρ[i]? with
  | some (some (.l xs)) => match xs[xs.length - 1]? with
    | some _ => .ok (.nx, ρ.set i (some (.l xs.dropLast))) D
    | none => .stuck
  | _ => .stuck
/-- xs.append(ys.pop(at)) -/
def appPopAt (i j : Nat) (a : EX) : ST := fun ρ D => match ρ[i]?, ρ[j]? with
  | some (some (.l xs)), some (some (.l ys)) => (a ρ D).bind fun d D1 => match d with
    | .int k => match ixN ys.length k with
      | some n => match ys[n]? with
        | some y => if xs.length < 10000000 ∧ ys.length < 10000000 ∧ i ≠ j then .ok (.nx, (ρ.set j (some (.l (ys.eraseIdx n)))).set i (some (.l (xs ++ [y])))) D1 else .stuck
        | none => .stuck
      | none => .stuck
    | _ => .stuck
  | _, _ => .stuck
/-- xs[k] = e, d[k] = e -/
def putK (ds : List (PyData × PyData)) (k : Key) (v : PyData) : List (PyData × PyData) := if ds.any (fun p => decide (toKey p.1 = some k)) then ds.map (fun p => if toKey p.1 = some k then (p.1, v) else p) else ds ++ [(keyD k, v)]
def putT (ds : List (PyData × PyData)) (k : List Key) (v : PyData) : List (PyData × PyData) := if ds.any (fun p => decide (toTK p.1 = some k)) then ds.map (fun p => if toTK p.1 = some k then (p.1, v) else p) else ds ++ [(tkeyD k, v)]
def putItem (i : Nat) (k a : EX) : ST := fun ρ D => match ρ[i]? with
  | some (some (.l xs)) => (a ρ D).bind fun d D1 => (k ρ D1).bind fun y D2 => match y with
    | .int n => match ixN xs.length n with
      | some j => .ok (.nx, ρ.set i (some (.l (xs.set j d)))) D2
      | none => .stuck
    | _ => .stuck
  | _ => .stuck
def putDict (i : Nat) (k a : EX) : ST := fun ρ D => match ρ[i]? with
  | some (some (.m ds)) => (a ρ D).bind fun d D1 => (k ρ D1).bind fun y D2 => match toKey y with
    | some k => if ds.length < 10000000 then .ok (.nx, ρ.set i (some (.m (putK ds k d)))) D2 else .stuck
    | none => .stuck
  | some (some (.mt ds)) => (a ρ D).bind fun d D1 => (k ρ D1).bind fun y D2 => match toTK y with
    | some k => if ds.length < 10000000 then .ok (.nx, ρ.set i (some (.mt (putT ds k d)))) D2 else .stuck
    | none => .stuck
  | _ => .stuck
end Sv
theorem bigM {n : Nat} (h : n < 10000000) : n < sizeLine := Nat.lt_of_lt_of_le h (by rw [sizeLine_eq]; decide)
theorem bigM' {n : Nat} (h : n < 10000000) : n ≤ sizeLine := Nat.le_of_lt (bigM h)
section
variable {ι : Type} {X : ι → Cx} {C : Ct} {E : XK} {fr : Bool} {S : List Addr} {ρ : Env} {D : Dw} {σ : St} {H : Hp} {Dn : Ends}
variable {a b c e : Expr} {st : Stmt} {rest sts sts' : List Stmt} {es : List Expr} {pos : Pos} {fa fb fc : EX} {ga gb : EB} {aa : EA} {f g : ST}
/-- one's own thing at p is written -/
theorem Fm.put {i : Nat} {p : Addr} {t t' : T} {o o' : HO} (F : Fm C S ρ D σ H) (e : ρ[i]? = some (some t)) (ot : own t = true) (s : σ[i]? = some (some (.ref p))) (hp : H p = some o) (nt : isTup o = false) (no : ∀ ps, o ≠ .tbl ps) (ot' : own t' = true)
    (h' : Rt C S (upd H p o') (.ref p) t') : Fm C S (ρ.set i (some t')) D σ (upd H p o') ∧ Ext S H S (upd H p o') := by
  obtain ⟨v, s', h⟩ := F.slot i t e
  rw [s] at s'; cases s'
  have info : p ∈ S ∧ p ∉ C.ch ∧ p ∉ C.U ∧ C.H0 p = none := by
    cases t with
    | l xs => obtain ⟨a, vs, ea, _, _, r⟩ := h; cases ea; exact r
    | m xs => obtain ⟨a, vs, ea, _, _, r⟩ := h; cases ea; exact r
    | mt xs => obtain ⟨a, vs, ea, _, _, r⟩ := h; cases ea; exact r
    | _ => cases ot
  obtain ⟨mS, nch, nU, h0⟩ := info
  have kS : Kp S H (upd H p o') := Kp.refl.set mS fun u hu => by rw [hp] at hu; cases hu; exact nt
  have stay : ∀ {b : Addr} {u : HO}, b ≠ p → H b = some u → upd H p o' b = some u := fun n q => by rw [upd_ne n]; exact q
  have hi : i < ρ.length := (List.getElem?_eq_some_iff.mp e).1
  refine ⟨⟨by rw [List.length_set, F.len], fun j u ej => ?_, fun j k u w z hjk e1 e2 o1 o2 s1 s2 => ?_, F.base, fun b m => ?_, ?_, ⟨fun P m => ?_, fun q m => ?_⟩, ?_, F.drc⟩, Ext.of kS⟩
  · by_cases hj : i = j
    · subst hj
      rw [List.getElem?_set_self hi] at ej
      cases ej
      exact ⟨_, s, h'⟩
    · rw [List.getElem?_set_ne hj] at ej
      obtain ⟨v, s1, h1⟩ := F.slot j u ej
      refine ⟨v, s1, h1.mk kS (fun _ m => .inl m) fun ou a ea m => ⟨m, fun ob eb => stay (fun z => ?_) eb⟩⟩
      subst z
      rw [ea] at s1
      exact F.uniq i j t u _ hj e ej ot ou s s1
  · by_cases hj : i = j
    · subst hj
      rw [List.getElem?_set_self hi] at e1
      cases e1
      rw [List.getElem?_set_ne hjk] at e2
      exact F.uniq i k t w z hjk e e2 ot o2 s1 s2
    · rw [List.getElem?_set_ne hj] at e1
      by_cases hk : i = k
      · subst hk
        exact F.uniq j i u t z hjk e1 e o1 ot s1 s2
      · rw [List.getElem?_set_ne hk] at e2
        exact F.uniq j k u w z hjk e1 e2 o1 o2 s1 s2
  · by_cases hb : b = p
    · subst hb; rw [upd_same]; exact (fun z => by cases z)
    · rw [upd_ne hb]; exact F.dom b m
  · exact fun x ob ex hx => by
      have := F.kp x ob ex hx
      exact stay (fun z => by rw [z] at ex; rw [h0] at ex; cases ex) this
  · obtain ⟨ps, ep, tr⟩ := F.tb.g P m
    exact ⟨ps, stay (fun z => nch (z ▸ List.mem_append_left _ (List.mem_append_left _ m))) ep, tr⟩
  · obtain ⟨ps, ep, tr, q2⟩ := F.tb.q q m
    refine ⟨ps, stay (fun z => nch (z ▸ List.mem_append_left _ (List.mem_append_right _ (List.mem_map.mpr ⟨q, m, rfl⟩)))) ep, tr, fun pos cv z => ?_⟩
    obtain ⟨cc, rfl, y⟩ := q2 pos cv z
    refine ⟨cc, rfl, stay (fun z => ?_) y⟩
    subst z
    rw [y] at hp
    cases hp
    cases nt
  · have hd := F.dr
    unfold DrO at *
    split at hd
    · rename_i d w c ec
      have m1 : d ∈ C.ch := List.mem_append_right _ (by unfold Ct.dch; rw [ec]; simp)
      have m2 : w ∈ C.ch := List.mem_append_right _ (by unfold Ct.dch; rw [ec]; simp)
      exact ⟨stay (fun z => nch (z ▸ m1)) hd.dr, stay (fun z => nch (z ▸ m2)) hd.wi, stay (fun z => F.drc d w c ec (z ▸ h0)) hd.ce, hd.lw, hd.lc, hd.wc⟩
    · trivial
theorem Fm.own_l {i : Nat} {xs : List PyData} (F : Fm C S ρ D σ H) (e : ρ[i]? = some (some (.l xs))) : ∃ a vs, σ[i]? = some (some (.ref a)) ∧ H a = some (.lst vs) ∧ DtL S H vs xs ∧ a ∈ S ∧ a ∉ C.ch ∧ a ∉ C.U ∧ C.H0 a = none := by
  obtain ⟨v, s, a, vs, rfl, h⟩ := F.slot i _ e
  exact ⟨a, vs, s, h⟩
theorem Fm.putL {i : Nat} {p : Addr} {xs ys : List PyData} {vs us : List V} (F : Fm C S ρ D σ H) (e : ρ[i]? = some (some (.l xs))) (s : σ[i]? = some (some (.ref p))) (hp : H p = some (.lst vs)) (h : DtL S H us ys) : Fm C S (ρ.set i (some (.l ys))) D σ (upd H p (.lst us)) ∧ Ext S H S (upd H p (.lst us)) := by
  obtain ⟨a, ws, s1, ha, hd, m, n1, n2, n3⟩ := F.own_l e
  rw [s] at s1; cases s1
  refine F.put e rfl s hp rfl (fun _ z => by cases z) rfl ⟨p, us, rfl, upd_same, h.kp (Kp.refl.set m fun u hu => by rw [hp] at hu; cases hu; rfl), m, n1, n2, n3⟩
theorem PostS.imp {r : R (Out × Env)} {t t' : Prop} (h : PostS C E fr S H Dn r t) (i : t → t') : PostS C E fr S H Dn r t' := by
  unfold PostS at *
  split
  · trivial
  all_goals exact fun z => i (h z)
theorem vs_append {i : Nat} (h : VE X C E a fa) (hp : ∀ i_ ta, PE (X i_) a ta → PS (X i_) st (tDrop (tBM C.G.K "list" rAppend (tVar i) (tCons ta tNil)))) : VS X C E fr st (Sv.append i fa) := by
  obtain ⟨ta, pa, qa⟩ := h.ex
  refine ⟨_, (fun i_ => hp i_ ta (pa i_)), fun S ρ D σ H Dn F => ?_⟩
  show PostS C E fr S H Dn _ (∃ v, σ[i]? = some (some v) ∧ tyV C.G.K "list" v H ∧ ta σ H fun y H2 => rAppend v [y] H2 fun _ H3 => Dn.nx σ H3)
  unfold Sv.append
  split
  · rename_i xs hi
    obtain ⟨p, vs, s, hp, hd, _⟩ := F.own_l hi
    refine PostS.imp (t := ta σ H fun y H2 => rAppend (.ref p) [y] H2 fun _ H3 => Dn.nx σ H3) (PostE.bindS (qa S ρ D σ H F) fun d D1 y H1 k1 F1 h1 => ?_) fun z => ⟨_, s, .inl ⟨rfl, vs, sqL hp⟩, z⟩
    split
    · rename_i hl
      obtain ⟨p', vs', s', hp', hd', _⟩ := F1.own_l hi
      rw [s] at s'; cases s'
      intro q
      obtain ⟨F2, x⟩ := F1.putL hi s hp' (hd'.snoc h1)
      exact ⟨p, vs', y, rfl, rfl, hp', by rw [hd'.len]; exact bigM hl, q S σ _ x F2⟩
    · trivial
  · trivial
theorem vs_extend {i : Nat} (h : VE X C E a fa) (hp : ∀ i_ ta, PE (X i_) a ta → PS (X i_) st (tDrop (tBM C.G.K "list" rExtend (tVar i) (tCons ta tNil)))) : VS X C E fr st (Sv.extend i fa) := by
  obtain ⟨ta, pa, qa⟩ := h.ex
  refine ⟨_, (fun i_ => hp i_ ta (pa i_)), fun S ρ D σ H Dn F => ?_⟩
  show PostS C E fr S H Dn _ (∃ v, σ[i]? = some (some v) ∧ tyV C.G.K "list" v H ∧ ta σ H fun y H2 => rExtend v [y] H2 fun _ H3 => Dn.nx σ H3)
  unfold Sv.extend
  split
  · rename_i xs hi
    obtain ⟨p, vs, s, hp, hd, _⟩ := F.own_l hi
    refine PostS.imp (t := ta σ H fun y H2 => rExtend (.ref p) [y] H2 fun _ H3 => Dn.nx σ H3) (PostE.bindS (qa S ρ D σ H F) fun d D1 y H1 k1 F1 h1 => ?_) fun z => ⟨_, s, .inl ⟨rfl, vs, sqL hp⟩, z⟩
    split
    · split
      · rename_i ys hl
        obtain ⟨p', vs', s', hp', hd', _⟩ := F1.own_l hi
        rw [s] at s'; cases s'
        obtain ⟨b, us, rfl, eb, nb, hu⟩ := h1.seqL
        intro q
        obtain ⟨F2, x⟩ := F1.putL hi s hp' (hd'.app hu)
        exact ⟨p, b, vs', us, rfl, rfl, hp', eb, by rw [hd'.len, hu.len]; exact bigM' hl, q S σ _ x F2⟩
      · trivial
    · trivial
  · trivial
theorem dropLast_dtl {vs : List V} {xs : List PyData} (h : DtL S H vs xs) : DtL S H vs.dropLast xs.dropLast := by
  rw [List.dropLast_eq_take, List.dropLast_eq_take, h.len]
  exact h.take _
theorem vs_popTo {i j : Nat} (hp : ∀ i_, PS (X i_) st (tAsg (tBM0 C.G.K "list" rPop (tVar i)) (gName j))) : VS X C E fr st (Sv.popTo j i) := by
  refine ⟨_, hp, fun S ρ D σ H Dn F => ?_⟩
  show PostS C E fr S H Dn _ (∃ v, σ[i]? = some (some v) ∧ tyV C.G.K "list" v H ∧ rPop v [] H fun y H3 => Dn.nx (σ.set j (some y)) H3)
  unfold Sv.popTo
  split
  · rename_i xs hi
    split
    · rename_i d hd
      split
      · rename_i hij
        obtain ⟨p, vs, s, hp, hv, _⟩ := F.own_l hi
        obtain ⟨y, hy, dy⟩ := hv.get hd
        intro q
        obtain ⟨F2, x⟩ := F.putL hi s hp (dropLast_dtl hv)
        refine ⟨_, s, .inl ⟨rfl, vs, sqL hp⟩, p, vs, y, rfl, rfl, hp, by rw [hv.len]; exact hy, q S _ _ x ?_⟩
        exact F2.setD (x.dt dy)
      · trivial
    · trivial
  · trivial
theorem vs_popDrop {i : Nat} (hp : ∀ i_, PS (X i_) st (tDrop (tBM0 C.G.K "list" rPop (tVar i)))) : VS X C E fr st (Sv.popDrop i) := by
  refine ⟨_, hp, fun S ρ D σ H Dn F => ?_⟩
  show PostS C E fr S H Dn _ (∃ v, σ[i]? = some (some v) ∧ tyV C.G.K "list" v H ∧ rPop v [] H fun y H3 => Dn.nx σ H3)
  unfold Sv.popDrop
  split
  · rename_i xs hi
    split
    · rename_i d hd
      obtain ⟨p, vs, s, hp, hv, _⟩ := F.own_l hi
      obtain ⟨y, hy, dy⟩ := hv.get hd
      intro q
      obtain ⟨F2, x⟩ := F.putL hi s hp (dropLast_dtl hv)
      exact ⟨_, s, .inl ⟨rfl, vs, sqL hp⟩, p, vs, y, rfl, rfl, hp, by rw [hv.len]; exact hy, q S _ _ x F2⟩
    · trivial
  · trivial
/-- found.append(left.pop(at)) -/
theorem vs_appPopAt {i j : Nat} (h : VE X C E a fa) (hp : ∀ i_ ta, PE (X i_) a ta → PS (X i_) st (tDrop (tBM C.G.K "list" rAppend (tVar i) (tCons (tBM C.G.K "list" rPopAt (tVar j) (tCons ta tNil)) tNil)))) : VS X C E fr st (Sv.appPopAt i j fa) := by
  obtain ⟨ta, pa, qa⟩ := h.ex
  refine ⟨_, (fun i_ => hp i_ ta (pa i_)), fun S ρ D σ H Dn F => ?_⟩
  show PostS C E fr S H Dn _ (∃ v, σ[i]? = some (some v) ∧ tyV C.G.K "list" v H ∧ ∃ u, σ[j]? = some (some u) ∧ tyV C.G.K "list" u H ∧ ta σ H fun y H1 => rPopAt u [y] H1 fun z H2 => rAppend v [z] H2 fun _ H3 => Dn.nx σ H3)
  unfold Sv.appPopAt
  split
  · rename_i xs ys hi hj
    obtain ⟨p, vs, s, hp, hd, _⟩ := F.own_l hi
    obtain ⟨q, us, s2, hq, hd2, _⟩ := F.own_l hj
    refine PostS.imp (t := ta σ H fun y H1 => rPopAt (.ref q) [y] H1 fun z H2 => rAppend (.ref p) [z] H2 fun _ H3 => Dn.nx σ H3) (PostE.bindS (qa S ρ D σ H F) fun d D1 y H1 k1 F1 h1 => ?_) fun z => ⟨_, s, .inl ⟨rfl, vs, sqL hp⟩, _, s2, .inl ⟨rfl, us, sqL hq⟩, z⟩
    split
    · rename_i k
      split
      · rename_i n hn
        split
        · rename_i y0 hy0
          split
          · rename_i hl
            obtain ⟨hl, hl2, hij⟩ := hl
            obtain ⟨p', vs', s', hp', hd', _⟩ := F1.own_l hi
            rw [s] at s'; cases s'
            obtain ⟨q', us', s2', hq', hd2', _⟩ := F1.own_l hj
            rw [s2] at s2'; cases s2'
            obtain ⟨z, hz, dz⟩ := hd2'.get hy0
            obtain ⟨sx, _, _, _⟩ := ixN_seq hn
            obtain ⟨F2, x2⟩ := F1.putL hj s2 hq' (hd2'.erase n)
            have hpq : p ≠ q := fun e => by subst e; exact F1.uniq i j _ _ _ hij hi hj rfl rfl s s2
            have hi2 : (ρ.set j (some (.l (ys.eraseIdx n))))[i]? = some (some (.l xs)) := by rw [List.getElem?_set_ne (Ne.symm hij)]; exact hi
            have hp2 : upd H1 q (.lst (us'.eraseIdx n)) p = some (.lst vs') := by rw [upd_ne hpq]; exact hp'
            obtain ⟨F3, x3⟩ := F2.putL hi2 s hp2 ((x2.dtL hd').snoc (x2.dt dz))
            have hb : -(2 ^ 63) ≤ k ∧ k < 2 ^ 63 := by
              obtain ⟨_, _, h1, h2⟩ := ixN_seq hn
              constructor <;> omega
            intro w
            refine ⟨q, us', k, n, z, rfl, by rw [h1.int_inv], hq', hb.1, hb.2, by rw [hd2'.len]; exact sx, hz, ?_⟩
            exact ⟨p, vs', z, rfl, rfl, hp2, by rw [hd'.len]; exact bigM hl, w S σ _ (x2.trans x3) F3⟩
          · trivial
        · trivial
      · trivial
    · trivial
  · trivial
end
end Fx
set_option Elab.async false
set_option linter.all false
set_option maxRecDepth 100000
set_option maxHeartbeats 2000000
namespace Fx
open PySem PySem.Spec PyProof.Rows L2 Kb
variable [Nm]
section
variable {ι : Type} {X : ι → Cx} {C : Ct} {E : XK} {fr : Bool} {S : List Addr} {ρ : Env} {D : Dw} {σ : St} {H : Hp} {Dn : Ends}
variable {a b c e : Expr} {st : Stmt} {rest sts sts' : List Stmt} {es : List Expr} {pos : Pos} {fa fb fc : EX} {ga gb : EB} {aa : EA} {f g : ST}
theorem vs_putItem {i : Nat} (hk : VB X C E b fb) (h : VE X C E a fa) (hp : ∀ i_ ta tb, PE (X i_) a ta → PE (X i_) b tb → PS (X i_) st (tAsg ta (gSub (tVar i) tb rSetL))) : VS X C E fr st (Sv.putItem i fb fa) := by
  obtain ⟨ta, pa, qa⟩ := h.ex
  obtain ⟨tb, pb, qb⟩ := hk.ex
  refine ⟨_, (fun i_ => hp i_ ta tb (pa i_) (pb i_)), fun S ρ D σ H Dn F => ?_⟩
  show PostS C E fr S H Dn _ (ta σ H fun x H1 => ∃ o, σ[i]? = some (some o) ∧ tb σ H1 fun k H2 => rSetL o k x H2 fun H3 => Dn.nx σ H3)
  unfold Sv.putItem
  split
  · rename_i xs hi
    refine PostE.bindS (qa S ρ D σ H F) fun d D1 x H1 k1 F1 h1 => ?_
    obtain ⟨p, vs, s, hp, hd, _⟩ := F1.own_l hi
    refine PostS.imp (PostE.bindS (k := fun k H2 => rSetL (.ref p) k x H2 fun H3 => Dn.nx σ H3) (qb S ρ D1 σ H1 F1) fun d2 D2 y H2 k2 F2 h2 => ?_) fun z => ⟨_, s, z⟩
    split
    · rename_i n
      split
      · rename_i j hj
        obtain ⟨p', vs', s', hp', hd', _⟩ := F2.own_l hi
        rw [s] at s'; cases s'
        intro q
        obtain ⟨F3, x3⟩ := F2.putL hi s hp' (hd'.set (h1.kp k2.s) j)
        exact ⟨p, vs', n, j, rfl, (h2.sn F2).int_inv, hp', by rw [hd'.len]; exact hj, q S σ _ x3 F3⟩
      · trivial
    · trivial
  · trivial
theorem DtK.put {kvs : List (Key × V)} {ds : List (PyData × PyData)} {k : Key} {v : V} {d : PyData} (h : DtK S H kvs ds) (hv : Dt S H v d) : DtK S H (L2.putK kvs k v) (Sv.putK ds k d) := by
  have any_eq : ∀ {kvs : List (Key × V)} {ds : List (PyData × PyData)}, DtK S H kvs ds → (kvs.any fun kv => decide (kv.1 = k)) = ds.any fun p => decide (toKey p.1 = some k) := by
    intro kvs
    induction kvs with
    | nil => intro ds h; cases h; rfl
    | cons p r ih =>
      intro ds h
      cases h with
      | @cons j v vs d ds h t =>
        rw [List.any_cons, List.any_cons, ih t]
        have : decide (j = k) = decide (toKey (keyD j) = some k) := by
          rw [toKey_key, decide_eq_decide]
          exact ⟨fun e => by rw [e], fun e => Option.some.inj e⟩
        show (decide (j = k) || _) = _
        rw [this]
  have map_ok : ∀ {kvs : List (Key × V)} {ds : List (PyData × PyData)}, DtK S H kvs ds → DtK S H (kvs.map fun kv => if kv.1 = k then (kv.1, v) else kv) (ds.map fun p => if toKey p.1 = some k then (p.1, d) else p) := by
    intro kvs
    induction kvs with
    | nil => intro ds h; cases h; exact .nil
    | cons p r ih =>
      intro ds h
      cases h with
      | @cons j v' vs d' ds h t =>
        rw [List.map_cons, List.map_cons]
        by_cases e : j = k
        · rw [if_pos e, if_pos (show toKey (keyD j) = some k by rw [toKey_key, e])]
          exact .cons hv (ih t)
        · rw [if_neg e, if_neg (show ¬ toKey (keyD j) = some k from fun z => e (Option.some.inj ((toKey_key j).symm.trans z)))]
          exact .cons h (ih t)
  have app_ok : ∀ {kvs : List (Key × V)} {ds : List (PyData × PyData)}, DtK S H kvs ds → DtK S H (kvs ++ [(k, v)]) (ds ++ [(keyD k, d)]) := by
    intro kvs
    induction kvs with
    | nil => intro ds h; cases h; exact .cons hv .nil
    | cons p r ih =>
      intro ds h
      cases h with
      | cons h t => exact .cons h (ih t)
  unfold L2.putK Sv.putK
  rw [any_eq h]
  split
  · exact map_ok h
  · exact app_ok h
theorem DtT.put {kvs : List (List Key × V)} {ds : List (PyData × PyData)} {k : List Key} {v : V} {d : PyData} (h : DtT S H kvs ds) (hv : Dt S H v d) : DtT S H (L2.putK kvs k v) (Sv.putT ds k d) := by
  have any_eq : ∀ {kvs : List (List Key × V)} {ds : List (PyData × PyData)}, DtT S H kvs ds → (kvs.any fun kv => decide (kv.1 = k)) = ds.any fun p => decide (toTK p.1 = some k) := by
    intro kvs
    induction kvs with
    | nil => intro ds h; cases h; rfl
    | cons p r ih =>
      intro ds h
      cases h with
      | @cons j v vs d ds h t =>
        rw [List.any_cons, List.any_cons, ih t]
        have : decide (j = k) = decide (toTK (tkeyD j) = some k) := by
          rw [toTK_key, decide_eq_decide]
          exact ⟨fun e => by rw [e], fun e => Option.some.inj e⟩
        show (decide (j = k) || _) = _
        rw [this]
  have map_ok : ∀ {kvs : List (List Key × V)} {ds : List (PyData × PyData)}, DtT S H kvs ds → DtT S H (kvs.map fun kv => if kv.1 = k then (kv.1, v) else kv) (ds.map fun p => if toTK p.1 = some k then (p.1, d) else p) := by
    intro kvs
    induction kvs with
    | nil => intro ds h; cases h; exact .nil
    | cons p r ih =>
      intro ds h
      cases h with
      | @cons j v' vs d' ds h t =>
        rw [List.map_cons, List.map_cons]
        by_cases e : j = k
        · rw [if_pos e, if_pos (show toTK (tkeyD j) = some k by rw [toTK_key, e])]
          exact .cons hv (ih t)
        · rw [if_neg e, if_neg (show ¬ toTK (tkeyD j) = some k from fun z => e (Option.some.inj ((toTK_key j).symm.trans z)))]
          exact .cons h (ih t)
  have app_ok : ∀ {kvs : List (List Key × V)} {ds : List (PyData × PyData)}, DtT S H kvs ds → DtT S H (kvs ++ [(k, v)]) (ds ++ [(tkeyD k, d)]) := by
    intro kvs
    induction kvs with
    | nil => intro ds h; cases h; exact .cons hv .nil
    | cons p r ih =>
      intro ds h
      cases h with
      | cons h t => exact .cons h (ih t)
  unfold L2.putK Sv.putT
  rw [any_eq h]
  split
  · exact map_ok h
  · exact app_ok h
theorem DtT.len {kvs : List (List Key × V)} {ds : List (PyData × PyData)} (h : DtT S H kvs ds) : kvs.length = ds.length := by
  match kvs, ds, h with
  | [], [], .nil => rfl
  | _ :: _, _ :: _, .cons _ r => exact congrArg (· + 1) (DtT.len r)
theorem vs_putDict {i : Nat} (hk : VB X C E b fb) (h : VE X C E a fa) (hp : ∀ i_ ta tb, PE (X i_) a ta → PE (X i_) b tb → PS (X i_) st (sDPut (tVar i) tb ta)) : VS X C E fr st (Sv.putDict i fb fa) := by
  obtain ⟨ta, pa, qa⟩ := h.ex
  obtain ⟨tb, pb, qb⟩ := hk.ex
  refine ⟨_, (fun i_ => hp i_ ta tb (pa i_) (pb i_)), fun S ρ D σ H Dn F => ?_⟩
  show PostS C E fr S H Dn _ (ta σ H fun v H1 => ∃ x, σ[i]? = some (some x) ∧ tb σ H1 fun y H3 => ∃ a H4, x = .ref a ∧ DPut H3 a y v H4 ∧ Dn.nx σ H4)
  unfold Sv.putDict
  split
  · rename_i ds hi
    refine PostE.bindS (qa S ρ D σ H F) fun d D1 v H1 k1 F1 h1 => ?_
    obtain ⟨_, s, p, vs, rfl, hp, hd, _⟩ := F1.slot i _ hi
    refine PostS.imp (PostE.bindS (k := fun y H3 => ∃ a H4, V.ref p = .ref a ∧ DPut H3 a y v H4 ∧ Dn.nx σ H4) (qb S ρ D1 σ H1 F1) fun d2 D2 y H2 k2 F2 h2 => ?_) fun z => ⟨_, s, z⟩
    split
    · rename_i k hk
      split
      · rename_i hl
        obtain ⟨_, s', p', vs', rfl, hp', hd', m, n1, n2, n3⟩ := F2.slot i _ hi
        rw [s] at s'; cases s'
        intro q
        have hd2 : DtK S H2 (L2.putK vs' k v) (Sv.putK ds k d) := hd'.put (h1.kp k2.s)
        obtain ⟨F3, x3⟩ := F2.put (o' := .dK (L2.putK vs' k v)) (t' := .m (Sv.putK ds k d)) hi rfl s hp' rfl (fun _ z => by cases z) rfl ⟨p, _, rfl, upd_same, hd2.kp (Kp.refl.set m fun u hu => by rw [hp'] at hu; cases hu; rfl), m, n1, n2, n3⟩
        exact ⟨p, _, rfl, by rw [(h2.sn F2).key hk]; exact DPut.k hp' (by rw [hd'.len]; exact bigM hl), q S σ _ x3 F3⟩
      · trivial
    · trivial
  · rename_i ds hi
    refine PostE.bindS (qa S ρ D σ H F) fun d D1 v H1 k1 F1 h1 => ?_
    obtain ⟨_, s, p, vs, rfl, hp, hd, _⟩ := F1.slot i _ hi
    refine PostS.imp (PostE.bindS (k := fun y H3 => ∃ a H4, V.ref p = .ref a ∧ DPut H3 a y v H4 ∧ Dn.nx σ H4) (qb S ρ D1 σ H1 F1) fun d2 D2 y H2 k2 F2 h2 => ?_) fun z => ⟨_, s, z⟩
    split
    · rename_i k hk
      split
      · rename_i hl
        obtain ⟨_, s', p', vs', rfl, hp', hd', m, n1, n2, n3⟩ := F2.slot i _ hi
        rw [s] at s'; cases s'
        intro q
        have hd2 : DtT S H2 (L2.putK vs' k v) (Sv.putT ds k d) := hd'.put (h1.kp k2.s)
        obtain ⟨F3, x3⟩ := F2.put (o' := .dT (L2.putK vs' k v)) (t' := .mt (Sv.putT ds k d)) hi rfl s hp' rfl (fun _ z => by cases z) rfl ⟨p, _, rfl, upd_same, hd2.kp (Kp.refl.set m fun u hu => by rw [hp'] at hu; cases hu; rfl), m, n1, n2, n3⟩
        obtain ⟨bb, rfl, eb⟩ := (h2.sn F2).tkey hk
        exact ⟨p, _, rfl, DPut.t hp' eb (by rw [hd'.len]; exact bigM hl), q S σ _ x3 F3⟩
      · trivial
    · trivial
  · trivial
/-! ### targets -/
abbrev EG := PyData → Env → Option Env
/-- but for these -/
structure Off (ks : List Nat) (ρ ρ' : Env) (σ σ' : St) : Prop where
  len : σ'.length = σ.length
  at_ : ∀ j : Nat, j ∉ ks → σ'[j]? = σ[j]?
  own : ∀ (j : Nat) (t : T), ρ'[j]? = some (some t) → own t = true → ρ[j]? = some (some t) ∧ j ∉ ks
  keep : ∀ j : Nat, j ∉ ks → ρ'[j]? = ρ[j]?
structure VG {ι : Type} (X : ι → Cx) (C : Ct) (tg : Expr) (ks : List Nat) (g : EG) : Prop where
  ex : ∃ t, (∀ i, PG (X i) tg t) ∧ ∀ S ρ D σ H v d ρ', Fm C S ρ D σ H → Dt S H v d → g d ρ = some ρ' → ∀ Q : St → Hp → Prop, (∀ σ', Fm C S ρ' D σ' H → Off ks ρ ρ' σ σ' → Q σ' H) → t v σ H Q
structure VGs {ι : Type} (X : ι → Cx) (C : Ct) (tgs : List Expr) (ks : List Nat) (g : List PyData → Env → Option Env) : Prop where
  ex : ∃ t, (∀ i, PGs (X i) tgs t) ∧ ∀ S ρ D σ H vs ds ρ', Fm C S ρ D σ H → DtL S H vs ds → g ds ρ = some ρ' → ∀ Q : St → Hp → Prop, (∀ σ', Fm C S ρ' D σ' H → Off ks ρ ρ' σ σ' → Q σ' H) → t vs σ H Q
namespace Gv
def name (i : Nat) : EG := fun d ρ => some (ρ.set i (some (.d d)))
def nil : List PyData → Env → Option Env := fun ds ρ => match ds with
  | [] => some ρ
  | _ => none
def cons (g : EG) (r : List PyData → Env → Option Env) : List PyData → Env → Option Env := fun ds ρ => match ds with
  | d :: ds => (g d ρ).bind (r ds)
  | [] => none
def tup (n : Nat) (g : List PyData → Env → Option Env) : EG := fun d ρ => match d with
  | .tuple ds => if ds.length = n then g ds ρ else none
  | _ => none
end Gv
theorem vg_name {i : Nat} {x : Str} {pos : Pos} (h : ∀ i_, PG (X i_) (.Name x pos) (gName i)) : VG X C (.Name x pos) [i] (Gv.name i) := by
  refine ⟨_, h, fun S ρ D σ H v d ρ' F hd e Q hq => ?_⟩
  cases e
  refine hq _ (F.setD hd) ⟨List.length_set, fun j hj => List.getElem?_set_ne (fun z => hj (by rw [z]; exact List.mem_singleton.mpr rfl)), fun j t e o => ?_, fun j hj => List.getElem?_set_ne (fun z => hj (by rw [z]; exact List.mem_singleton.mpr rfl))⟩
  by_cases hj : i = j
  · subst hj
    have hi : i < ρ.length := by
      have := (List.getElem?_eq_some_iff.mp e).1
      rwa [List.length_set] at this
    rw [List.getElem?_set_self hi] at e
    cases e
    cases o
  · rw [List.getElem?_set_ne hj] at e
    exact ⟨e, fun z => hj (List.mem_singleton.mp z).symm⟩
theorem vgs_nil : VGs X C [] [] Gv.nil := by
  refine ⟨_, fun _ => pgs_nil, fun S ρ D σ H vs ds ρ' F hd e Q hq => ?_⟩
  cases hd with
  | nil => cases e; exact ⟨rfl, hq _ F ⟨rfl, fun _ _ => rfl, fun _ _ e _ => ⟨e, List.not_mem_nil⟩, fun _ _ => rfl⟩⟩
  | cons h r => cases e
theorem vgs_cons {tg : Expr} {tgs : List Expr} {g : EG} {r : List PyData → Env → Option Env} {ks js : List Nat} (h : VG X C tg ks g) (h' : VGs X C tgs js r) (hs : ∀ i, (assignEach (tg :: tgs) (X i).env).map (·.2) = assign tg (X i).env :: (assignEach tgs (X i).env).map (·.2) := by intro _; rfl) : VGs X C (tg :: tgs) (ks ++ js) (Gv.cons g r) := by
  obtain ⟨t, p, q⟩ := h.ex
  obtain ⟨u, p', q'⟩ := h'.ex
  refine ⟨_, (fun i => pgs_cons (p i) (p' i) (hs i)), fun S ρ D σ H vs ds ρ' F hd e Q hq => ?_⟩
  cases hd with
  | nil => cases e
  | @cons v vs d ds h1 h2 =>
    have e : (g d ρ).bind (r ds) = some ρ' := e
    cases z : g d ρ with
    | none => rw [z] at e; cases e
    | some ρ1 =>
      rw [z] at e
      exact ⟨v, vs, rfl, q S ρ D σ H v d ρ1 F h1 z _ fun σ1 F1 o1 => q' S ρ1 D σ1 H vs ds ρ' F1 h2 e Q fun σ2 F2 o2 => hq σ2 F2 ⟨o2.len.trans o1.len, fun j hj => (o2.at_ j fun z => hj (List.mem_append_right _ z)).trans (o1.at_ j fun z => hj (List.mem_append_left _ z)), fun j t e o => let ⟨h1, n1⟩ := o2.own j t e o; let ⟨h2, n2⟩ := o1.own j t h1 o; ⟨h2, fun z => (List.mem_append.mp z).elim n2 n1⟩, fun j hj => (o2.keep j fun z => hj (List.mem_append_right _ z)).trans (o1.keep j fun z => hj (List.mem_append_left _ z))⟩⟩
theorem vg_tup {tg : Expr} {tgs : List Expr} {n : Nat} {r : List PyData → Env → Option Env} (hp : ∀ i_ t, PGs (X i_) tgs t → PG (X i_) tg (gTup C.G.K n t)) {ks : List Nat} (h : VGs X C tgs ks r) : VG X C tg ks (Gv.tup n r) := by
  obtain ⟨t, p, q⟩ := h.ex
  refine ⟨_, (fun i_ => hp i_ t (p i_)), fun S ρ D σ H v d ρ' F hd e Q hq => ?_⟩
  unfold Gv.tup at e
  split at e
  · rename_i ds
    split at e
    · rename_i hl
      obtain ⟨a, vs, rfl, ea, hv⟩ := hd.seqT
      exact ⟨a, vs, rfl, sqT ea, by rw [hv.len]; exact hl, q S ρ D σ H vs ds ρ' F hv e Q hq⟩
    · cases e
  · cases e
namespace Sv
/-- target = e -/
def asg (g : EG) (a : EX) : ST := fun ρ D => (a ρ D).bind fun d D1 => match g d ρ with
  | some ρ' => .ok (.nx, ρ') D1
  | none => .stuck
/-- x op= e -/
def aug (i : Nat) (g : PyData → PyData → Option PyData) (a : EX) : ST := fun ρ D => match ρ[i]? with
  | some (some (.d x)) => (a ρ D).bind fun y D1 => match g x y with
    | some z => .ok (.nx, ρ.set i (some (.d z))) D1
    | none => .stuck
  | _ => .stuck
end Sv
theorem vs_asg {tg : Expr} {gg : EG} {ks : List Nat} (hg : VG X C tg ks gg) (h : VE X C E e fa) (hp : ∀ i_ ta t, PE (X i_) e ta → PG (X i_) tg t → PS (X i_) st (tAsg ta t)) : VS X C E fr st (Sv.asg gg fa) := by
  obtain ⟨ta, pa, qa⟩ := h.ex
  obtain ⟨t, pt, qt⟩ := hg.ex
  refine ⟨_, (fun i_ => hp i_ ta t (pa i_) (pt i_)), fun S ρ D σ H Dn F => ?_⟩
  show PostS C E fr S H Dn _ (ta σ H fun x H1 => t x σ H1 Dn.nx)
  refine PostE.bindS (qa S ρ D σ H F) fun d D1 v H1 k1 F1 h1 => ?_
  split
  · rename_i ρ' e
    exact fun q => qt S ρ D1 σ H1 v d ρ' F1 h1 e _ fun σ' F' _ => q S σ' H1 .refl F'
  · trivial
theorem vs_aug {i : Nat} {op : Operator} {r : R2} {gg : PyData → PyData → Option PyData} (hg : DOp2 C r gg) (h : VB X C E e fa) (hp : ∀ i_ ta, PE (X i_) e ta → PS (X i_) st (tAug i ta r)) : VS X C E fr st (Sv.aug i gg fa) := by
  obtain ⟨ta, pa, qa⟩ := h.ex
  refine ⟨_, (fun i_ => hp i_ ta (pa i_)), fun S ρ D σ H Dn F => ?_⟩
  show PostS C E fr S H Dn _ (∃ x, σ[i]? = some (some x) ∧ ta σ H fun y H1 => r x y H1 fun z H2 => Dn.nx (σ.set i (some z)) H2)
  unfold Sv.aug
  split
  · rename_i x hi
    obtain ⟨v, s, hx⟩ := F.slot i _ hi
    refine PostS.imp (PostE.bindS (k := fun y H1 => r v y H1 fun z H2 => Dn.nx (σ.set i (some z)) H2) (qa S ρ D σ H F) fun d D1 y H1 k1 F1 h1 => ?_) fun z => ⟨_, s, z⟩
    split
    · rename_i z hz
      have hx : Dt S H v x := hx
      exact fun q => hg S H1 v y x d z (.dt (hx.kp k1.s)) (h1.sn F1) F1.dom hz _ fun u H2 k2 h2 => q S _ H2 (Ext.of k2.of) ((F1.grow k2).setD h2)
    · trivial
  · trivial
/-! ### for -/
/-- what is walked: things that stay -/
def ItOk (S : List Addr) (H1 : Hp) (ds : List PyData) (J : It) : Prop := ∀ i S2 H2, Ext S H1 S2 H2 → (∀ a ∈ S2, H2 a ≠ none) → (∀ d, ds[i]? = some d → J.go i H2 ∧ ∀ x H3, J.yld i H2 x H3 → Kp [] H2 H3 ∧ Dt S2 H3 x d) ∧ (i = ds.length → J.stop i H2)
def PostI (C : Ct) (E : XK) (S : List Addr) (ρ : Env) (σ : St) (H : Hp) (r : R (List PyData)) (t : (It → Hp → Prop) → Prop) : Prop := match r with
  | .stuck => True
  | .ok ds D' => ∀ Q : It → Hp → Prop, (∀ J H', Kq C S H H' → Fm C S ρ D' σ H' → ItOk S H' ds J → Q J H') → t Q
  | .err c fs D' => ErrP C E D' c fs → ∀ Q, t Q
structure VI {ι : Type} (X : ι → Cx) (C : Ct) (E : XK) (tg e : Expr) (f : EA) : Prop where
  ex : ∃ t, (∀ i, PI (X i) tg e t) ∧ ∀ S ρ D σ H, Fm C S ρ D σ H → PostI C E S ρ σ H (f ρ D) (fun Q => t σ H Q)
namespace Sv
def loop (g : EG) (body : ST) : List PyData → ST
  | [] => fun ρ D => .ok (.nx, ρ) D
  | d :: r => fun ρ D => match g d ρ with
    | none => .stuck
    | some ρ1 => (body ρ1 D).bind fun p D1 => match p with
      | (.nx, ρ2) => loop g body r ρ2 D1
      | (.ct, ρ2) => loop g body r ρ2 D1
      | (.brk, ρ2) => .ok (.nx, ρ2) D1
      | (.ret d, ρ2) => .ok (.ret d, ρ2) D1
def for_ (it : EA) (g : EG) (body : ST) : ST := fun ρ D => (it ρ D).bind fun ds D1 => loop g body ds ρ D1
end Sv
theorem vs_for {tg iter : Expr} {it : EA} {gg : EG} (hi : VI X C E tg iter it) {ks : List Nat} (hg : VG X C tg ks gg) (hb : VSs X C E fr sts f) (hp : ∀ i_ w t tb, PI (X i_) tg iter w → PG (X i_) tg t → PSs (X i_) sts tb → PS (X i_) st (tFor w t tb)) : VS X C E fr st (Sv.for_ it gg f) := by
  obtain ⟨w, pw, qw⟩ := hi.ex
  obtain ⟨t, pt, qt⟩ := hg.ex
  obtain ⟨tb, pb, qb⟩ := hb.ex
  refine ⟨_, (fun i_ => hp i_ w t tb (pw i_) (pt i_) (pb i_)), fun S ρ D σ H Dn F => ?_⟩
  have A := qw S ρ D σ H F
  unfold Sv.for_
  cases hr : it ρ D with
  | stuck => trivial
  | err c fs D1 => rw [hr] at A; exact fun e => A e _
  | ok ds D1 =>
    rw [hr] at A
    show PostS C E fr S H Dn (Sv.loop gg f ds ρ D1) _
    generalize hfin : Sv.loop gg f ds ρ D1 = fin
    -- the loop proper, once the outcome is told
    have main : ∀ (P : Prop), (∀ (S2 : List Addr) (ρ2 : Env) (D2 : Dw) (σ2 : St) (H2 : Hp), Ext S H S2 H2 → Fm C S2 ρ2 D2 σ2 H2 → fin = .ok (.nx, ρ2) D2 → Dn.nx σ2 H2) → (∀ (v : V) (H2 : Hp) (d : PyData) (ρ2 : Env) (D2 : Dw), fin = .ok (.ret d, ρ2) D2 → EndOk C D2 H2 → Rv C fr H2 v d → Dn.rt v H2) → (∀ c fs D2, fin = .err c fs D2 → ErrP C E D2 c fs) → fin ≠ .stuck → tFor w t tb Dn σ H := by
      intro P hn hret herr hst
      refine A _ fun J H1 k1 F1 hJ => ?_
      refine ⟨fun i m σ2 H2 => ∃ S2 ρ2 D2, Ext S H1 S2 H2 ∧ Fm C S2 ρ2 D2 σ2 H2 ∧ m = ds.length - i ∧ i ≤ ds.length ∧ Sv.loop gg f (ds.drop i) ρ2 D2 = fin, ⟨_, S, ρ, D1, .refl, F1, rfl, Nat.zero_le _, hfin⟩, ?_⟩
      rintro i m σ2 H2 ⟨S2, ρ2, D2, x2, F2, rfl, hi, hl⟩
      obtain ⟨hgo, hstop⟩ := hJ i S2 H2 x2 F2.dom
      by_cases hlt : i < ds.length
      · have hd : ds[i]? = some ds[i] := List.getElem?_eq_getElem hlt
        generalize ds[i] = d at hd
        have hdrop : ds.drop i = d :: ds.drop (i + 1) := by
          rw [List.drop_eq_getElem_cons hlt]
          rw [List.getElem?_eq_getElem hlt] at hd
          rw [Option.some.inj hd]
        obtain ⟨hg1, hy⟩ := hgo d hd
        refine .inr ⟨hg1, fun σ3 H3 => ∃ S3 ρ3 D3, Ext S H1 S3 H3 ∧ Fm C S3 ρ3 D3 σ3 H3 ∧ Sv.loop gg f (ds.drop (i + 1)) ρ3 D3 = fin, ?_, fun x H3 hx => ?_⟩
        · rintro σ3 H3 ⟨S3, ρ3, D3, x3, F3, h3⟩
          exact ⟨ds.length - (i + 1), by omega, S3, ρ3, D3, x3, F3, rfl, hlt, h3⟩
        · obtain ⟨k3, hx3⟩ := hy x H3 hx
          rw [hdrop] at hl
          unfold Sv.loop at hl
          cases hgg : gg d ρ2 with
          | none =>
            rw [hgg] at hl
            exact absurd hl.symm hst
          | some ρ3 =>
            rw [hgg] at hl
            refine qt S2 ρ2 D2 σ2 H3 x d ρ3 (F2.grow k3) hx3 hgg _ fun σ3 F3 _ => ?_
            have B := fun Dn => qb S2 ρ3 D2 σ3 H3 Dn F3
            have x3 : Ext S H1 S2 H3 := x2.trans (Ext.of k3.of)
            have hl : ((f ρ3 D2).bind fun p D1 => match p with | (.nx, ρ2) => Sv.loop gg f (ds.drop (i + 1)) ρ2 D1 | (.ct, ρ2) => Sv.loop gg f (ds.drop (i + 1)) ρ2 D1 | (.brk, ρ2) => .ok (.nx, ρ2) D1 | (.ret d, ρ2) => .ok (.ret d, ρ2) D1) = fin := hl
            cases hf : f ρ3 D2 with
            | stuck =>
              rw [hf] at hl
              exact absurd hl.symm hst
            | err c fs D3 =>
              rw [hf] at hl B
              exact B _ (herr c fs D3 hl.symm)
            | ok p D3 =>
              obtain ⟨o, ρ4⟩ := p
              rw [hf] at hl B
              cases o with
              | nx => exact B _ fun S4 σ4 H4 x4 F4 => ⟨S4, ρ4, D3, x3.trans x4, F4, hl⟩
              | ct => exact B _ fun S4 σ4 H4 x4 F4 => ⟨S4, ρ4, D3, x3.trans x4, F4, hl⟩
              | brk => exact B _ fun S4 σ4 H4 x4 F4 => hn S4 ρ4 D3 σ4 H4 ((Ext.of k1.s).trans (x3.trans x4)) F4 hl.symm
              | ret d2 => exact B _ fun v H4 e4 r4 => hret v H4 d2 ρ4 D3 hl.symm e4 r4
      · have : i = ds.length := by omega
        subst this
        refine .inl ⟨hstop rfl, ?_⟩
        rw [List.drop_length] at hl
        exact hn S2 ρ2 D2 σ2 H2 ((Ext.of k1.s).trans x2) F2 hl.symm
    cases fin with
    | stuck => trivial
    | err c fs D2 => exact fun e => main True (fun _ _ _ _ _ _ _ z => by cases z) (fun _ _ _ _ _ z => by cases z) (fun _ _ _ z => by cases z; exact e) (fun z => by cases z)
    | ok p D2 =>
      obtain ⟨o, ρ2⟩ := p
      cases o with
      | nx => exact fun k => main True (fun S2 ρ2 D2 σ2 H2 x F2 z => by cases z; exact k S2 σ2 H2 x F2) (fun _ _ _ _ _ z => by cases z) (fun _ _ _ z => by cases z) (fun z => by cases z)
      | ret d => exact fun k => main True (fun _ _ _ _ _ _ _ z => by cases z) (fun v H2 d ρ2 D2 z e r => by cases z; exact k v H2 e r) (fun _ _ _ z => by cases z) (fun z => by cases z)
      | brk => exact fun k => main True (fun _ _ _ _ _ _ _ z => by cases z) (fun _ _ _ _ _ z => by cases z) (fun _ _ _ z => by cases z) (fun z => by cases z)
      | ct => exact fun k => main True (fun _ _ _ _ _ _ _ z => by cases z) (fun _ _ _ _ _ z => by cases z) (fun _ _ _ z => by cases z) (fun z => by cases z)
end
end Fx
set_option Elab.async false
set_option linter.all false
set_option maxRecDepth 100000
set_option maxHeartbeats 2000000
namespace Fx
open PySem PySem.Spec PyProof.Rows L2 Kb
variable [Nm]
namespace Sv
/-! ### while -/
def whileN (t : EB) (f : ST) : Nat → ST
  | 0 => fun _ _ => .stuck
  | n + 1 => fun ρ D => (t ρ D).bind fun b D1 => if b = true then (f ρ D1).bind fun p D2 => match p with
      | (.nx, ρ2) => whileN t f n ρ2 D2
      | (.ct, ρ2) => whileN t f n ρ2 D2
      | (.brk, ρ2) => .ok (.nx, ρ2) D2
      | (.ret d, ρ2) => .ok (.ret d, ρ2) D2
    else .ok (.nx, ρ) D1
open Classical in
noncomputable def while_ (t : EB) (f : ST) : ST := fun ρ D => if h : ∃ n, whileN t f n ρ D ≠ .stuck then whileN t f h.choose ρ D else .stuck
theorem whileN_up (t : EB) (f : ST) : ∀ (n : Nat) (ρ : Env) (D : Dw), whileN t f n ρ D ≠ .stuck → whileN t f (n + 1) ρ D = whileN t f n ρ D
  | 0, ρ, D, h => absurd rfl h
  | n + 1, ρ, D, h => by
    have ih := whileN_up t f n
    unfold whileN at h ⊢
    cases hb : t ρ D with
    | stuck => rfl
    | err c fs D1 => rfl
    | ok b D1 =>
      rw [hb] at h
      simp only [bind_ok] at h ⊢
      cases b with
      | false => rfl
      | true =>
        simp only [if_true] at h ⊢
        cases hf : f ρ D1 with
        | stuck => rfl
        | err c fs D2 => rfl
        | ok p D2 =>
          rw [hf] at h
          obtain ⟨o, ρ2⟩ := p
          cases o with
          | nx => exact ih ρ2 D2 h
          | ct => exact ih ρ2 D2 h
          | brk => rfl
          | ret d => rfl
theorem whileN_le (t : EB) (f : ST) {n m : Nat} {ρ : Env} {D : Dw} (hm : n ≤ m) (h : whileN t f n ρ D ≠ .stuck) : whileN t f m ρ D = whileN t f n ρ D := by
  induction m with
  | zero => rw [Nat.le_zero.mp hm]
  | succ m ih =>
    by_cases e : n = m + 1
    · rw [e]
    · have := ih (by omega)
      rw [whileN_up t f m ρ D (by rw [this]; exact h), this]
theorem while_eq {t : EB} {f : ST} {n : Nat} {ρ : Env} {D : Dw} {r : R (Out × Env)} (h : whileN t f n ρ D = r) (hr : r ≠ .stuck) : while_ t f ρ D = r := by
  have ex : ∃ n, whileN t f n ρ D ≠ .stuck := ⟨n, by rw [h]; exact hr⟩
  unfold while_
  rw [dif_pos ex]
  have hc := ex.choose_spec
  rcases Nat.le_total n ex.choose with z | z
  · rw [whileN_le t f z (by rw [h]; exact hr), h]
  · rw [← whileN_le t f z hc, h]
/-- one turn -/
theorem while_turn (t : EB) (f : ST) (ρ : Env) (D : Dw) : while_ t f ρ D = (t ρ D).bind fun b D1 => if b = true then (f ρ D1).bind fun p D2 => match p with
      | (.nx, ρ2) => while_ t f ρ2 D2
      | (.ct, ρ2) => while_ t f ρ2 D2
      | (.brk, ρ2) => .ok (.nx, ρ2) D2
      | (.ret d, ρ2) => .ok (.ret d, ρ2) D2
    else .ok (.nx, ρ) D1 := by
  have key : ∀ (ρ2 : Env) (D2 : Dw), while_ t f ρ2 D2 = .stuck ∨ ∃ n, while_ t f ρ2 D2 = whileN t f n ρ2 D2 ∧ whileN t f n ρ2 D2 ≠ .stuck := fun ρ2 D2 => by
    by_cases ex : ∃ n, whileN t f n ρ2 D2 ≠ .stuck
    · obtain ⟨n, hn⟩ := ex
      exact .inr ⟨n, while_eq rfl hn, hn⟩
    · left
      unfold while_
      rw [dif_neg ex]
  have nostuck : ∀ (ρ2 : Env) (D2 : Dw), while_ t f ρ2 D2 = .stuck → ∀ n, whileN t f n ρ2 D2 = .stuck := fun ρ2 D2 h n => by
    cases q : whileN t f n ρ2 D2 with
    | stuck => rfl
    | ok a D => rw [while_eq q (by intro z; cases z)] at h; cases h
    | err c fs D => rw [while_eq q (by intro z; cases z)] at h; cases h
  have all : (∀ n, whileN t f (n + 1) ρ D = .stuck) → while_ t f ρ D = .stuck := fun h => by
    rcases key ρ D with z | ⟨n, z1, z2⟩
    · exact z
    · exact absurd ((whileN_up t f n ρ D z2).symm.trans (h n)) z2
  cases hb : t ρ D with
  | stuck => exact all fun n => by unfold whileN; rw [hb]; rfl
  | err c fs D1 => exact while_eq (n := 1) (by unfold whileN; rw [hb]; rfl) (by intro z; cases z)
  | ok b D1 =>
    simp only [bind_ok]
    cases b with
    | false => exact while_eq (n := 1) (by unfold whileN; rw [hb]; rfl) (by intro z; cases z)
    | true =>
      simp only [if_true]
      cases hf : f ρ D1 with
      | stuck => exact all fun n => by unfold whileN; rw [hb]; simp only [bind_ok, if_true, hf]; rfl
      | err c fs D2 => exact while_eq (n := 1) (by unfold whileN; rw [hb]; simp only [bind_ok, if_true, hf]; rfl) (by intro z; cases z)
      | ok p D2 =>
        obtain ⟨o, ρ2⟩ := p
        have step : ∀ n, (∀ d, o ≠ .ret d) → o ≠ .brk → whileN t f (n + 1) ρ D = whileN t f n ρ2 D2 := fun n h1 h2 => by
          conv => lhs; unfold whileN
          rw [hb]
          simp only [bind_ok, if_true, hf]
          cases o with
          | nx => rfl
          | ct => rfl
          | brk => exact absurd rfl h2
          | ret d => exact absurd rfl (h1 d)
        have go : (∀ d, o ≠ .ret d) → o ≠ .brk → while_ t f ρ D = while_ t f ρ2 D2 := fun h1 h2 => by
          rcases key ρ2 D2 with z | ⟨n, z1, z2⟩
          · rw [z]
            exact all fun n => by rw [step n h1 h2]; exact nostuck ρ2 D2 z n
          · rw [z1]
            exact while_eq (n := n + 1) (step n h1 h2) z2
        cases o with
        | nx => exact go (fun _ z => by cases z) (fun z => by cases z)
        | ct => exact go (fun _ z => by cases z) (fun z => by cases z)
        | brk => exact while_eq (n := 1) (by unfold whileN; rw [hb]; simp only [bind_ok, if_true, hf]) (by intro z; cases z)
        | ret d => exact while_eq (n := 1) (by unfold whileN; rw [hb]; simp only [bind_ok, if_true, hf]) (by intro z; cases z)
end Sv
section
variable {ι : Type} {X : ι → Cx} {C : Ct} {E : XK} {fr : Bool} {S : List Addr} {ρ : Env} {D : Dw} {σ : St} {H : Hp} {Dn : Ends}
variable {a b c e : Expr} {st : Stmt} {rest sts sts' : List Stmt} {es : List Expr} {pos : Pos} {fa fb fc : EX} {ga gb : EB} {aa : EA} {f g : ST}
theorem vs_while (ht : VT X C E c ga) (hb : VSs X C E fr sts f) (hp : ∀ i_ tc tb, PT (X i_) c tc → PSs (X i_) sts tb → PS (X i_) st (tWhile tc tb)) : VS X C E fr st (Sv.while_ ga f) := by
  obtain ⟨tc, pc, qc⟩ := ht.ex
  obtain ⟨tb, pb, qb⟩ := hb.ex
  refine ⟨_, (fun i_ => hp i_ tc tb (pc i_) (pb i_)), fun S ρ D σ H Dn F => ?_⟩
  by_cases ex : ∃ n, Sv.whileN ga f n ρ D ≠ .stuck
  · obtain ⟨n, hn⟩ := ex
    rw [Sv.while_eq rfl hn]
    generalize hfin : Sv.whileN ga f n ρ D = fin at hn
    have main : ∀ (P : Prop), (∀ (S2 : List Addr) (ρ2 : Env) (D2 : Dw) (σ2 : St) (H2 : Hp), Ext S H S2 H2 → Fm C S2 ρ2 D2 σ2 H2 → fin = .ok (.nx, ρ2) D2 → Dn.nx σ2 H2) → (∀ (v : V) (H2 : Hp) (d : PyData) (ρ2 : Env) (D2 : Dw), fin = .ok (.ret d, ρ2) D2 → EndOk C D2 H2 → Rv C fr H2 v d → Dn.rt v H2) → (∀ c fs D2, fin = .err c fs D2 → ErrP C E D2 c fs) → tWhile tc tb Dn σ H := by
      intro P hnx hret herr
      refine ⟨fun m σ2 H2 => ∃ S2 ρ2 D2, Ext S H S2 H2 ∧ Fm C S2 ρ2 D2 σ2 H2 ∧ Sv.whileN ga f m ρ2 D2 = fin, ⟨n, S, ρ, D, .refl, F, hfin⟩, ?_⟩
      rintro m σ2 H2 ⟨S2, ρ2, D2, x2, F2, hl⟩
      cases m with
      | zero => exact absurd hl.symm hn
      | succ m =>
        unfold Sv.whileN at hl
        have T := qc S2 ρ2 D2 σ2 H2 F2
        cases hb : ga ρ2 D2 with
        | stuck => rw [hb] at hl; exact absurd hl.symm hn
        | err c fs D3 => rw [hb] at hl T; exact T (herr c fs D3 hl.symm) _
        | ok bb D3 =>
          rw [hb] at hl T
          refine T _ fun H3 k3 F3 => ?_
          simp only [bind_ok] at hl
          cases bb with
          | false => exact hnx S2 ρ2 D3 σ2 H3 (x2.trans (Ext.of k3.s)) F3 hl.symm
          | true =>
            simp only [if_true] at hl ⊢
            have x3 := x2.trans (Ext.of k3.s)
            refine ⟨fun σ4 H4 => ∃ S4 ρ4 D4, Ext S H S4 H4 ∧ Fm C S4 ρ4 D4 σ4 H4 ∧ Sv.whileN ga f m ρ4 D4 = fin, fun σ4 H4 h4 => ⟨m, Nat.lt_succ_self m, h4⟩, ?_⟩
            have B := fun Dn => qb S2 ρ2 D3 σ2 H3 Dn F3
            cases hf : f ρ2 D3 with
            | stuck => rw [hf] at hl; exact absurd hl.symm hn
            | err c fs D4 => rw [hf] at hl B; exact B _ (herr c fs D4 hl.symm)
            | ok p D4 =>
              obtain ⟨o, ρ4⟩ := p
              rw [hf] at hl B
              simp only [bind_ok] at hl
              cases o with
              | nx => exact B _ fun S4 σ4 H4 x4 F4 => ⟨S4, ρ4, D4, x3.trans x4, F4, hl⟩
              | ct => exact B _ fun S4 σ4 H4 x4 F4 => ⟨S4, ρ4, D4, x3.trans x4, F4, hl⟩
              | brk => exact B _ fun S4 σ4 H4 x4 F4 => hnx S4 ρ4 D4 σ4 H4 (x3.trans x4) F4 hl.symm
              | ret d => exact B _ fun v H4 e4 r4 => hret v H4 d ρ4 D4 hl.symm e4 r4
    cases fin with
    | stuck => trivial
    | err c fs D2 => exact fun e => main True (fun _ _ _ _ _ _ _ z => by cases z) (fun _ _ _ _ _ z => by cases z) (fun _ _ _ z => by cases z; exact e)
    | ok p D2 =>
      obtain ⟨o, ρ2⟩ := p
      cases o with
      | nx => exact fun k => main True (fun S2 ρ2 D2 σ2 H2 x F2 z => by cases z; exact k S2 σ2 H2 x F2) (fun _ _ _ _ _ z => by cases z) (fun _ _ _ z => by cases z)
      | ret d => exact fun k => main True (fun _ _ _ _ _ _ _ z => by cases z) (fun v H2 d ρ2 D2 z e r => by cases z; exact k v H2 e r) (fun _ _ _ z => by cases z)
      | brk => exact fun k => main True (fun _ _ _ _ _ _ _ z => by cases z) (fun _ _ _ _ _ z => by cases z) (fun _ _ _ z => by cases z)
      | ct => exact fun k => main True (fun _ _ _ _ _ _ _ z => by cases z) (fun _ _ _ _ _ z => by cases z) (fun _ _ _ z => by cases z)
  · have : Sv.while_ ga f ρ D = .stuck := by
      unfold Sv.while_
      rw [dif_neg ex]
    rw [this]
    trivial
/-! ### what is walked -/
theorem PostE.bindI {P : V → Hp → PyData → Prop} {r : R PyData} {ta : VK → Prop} {g : PyData → Dw → R (List PyData)} {k : V → Hp → (It → Hp → Prop) → Prop} (h : PostE C E S ρ σ H P r ta)
    (hk : ∀ d D1 x H1, Kq C S H H1 → Fm C S ρ D1 σ H1 → P x H1 d → PostI C E S ρ σ H1 (g d D1) (fun Q => k x H1 Q)) : PostI C E S ρ σ H (r.bind g) (fun Q => ta fun x H1 => k x H1 Q) := by
  cases r with
  | stuck => trivial
  | err c fs D1 => exact fun e Q => h e _
  | ok d D1 =>
    show PostI C E S ρ σ H (g d D1) _
    have key : ∀ Q, (∀ x H1, Kq C S H H1 → Fm C S ρ D1 σ H1 → P x H1 d → k x H1 Q) → ta fun x H1 => k x H1 Q := fun Q hq => h _ fun v H' a b c => hq v H' a b c
    generalize hg : g d D1 = r2
    cases r2 with
    | stuck => trivial
    | err c fs D2 =>
      refine fun e Q => key Q fun x H1 a b c => ?_
      have := hk d D1 x H1 a b c
      rw [hg] at this
      exact this e Q
    | ok d2 D2 =>
      refine fun Q hq => key Q fun x H1 a b c => ?_
      have := hk d D1 x H1 a b c
      rw [hg] at this
      exact this Q fun J H' a2 b2 c2 => hq J H' (a.trans a2) b2 c2
theorem PostI.ok {J : It} {ds : List PyData} {t : (It → Hp → Prop) → Prop} (F : Fm C S ρ D σ H) (h : ItOk S H ds J) (i : ∀ Q : It → Hp → Prop, Q J H → t Q) : PostI C E S ρ σ H (.ok ds D) t := fun Q hq => i Q (hq J H .refl F h)
namespace Iv
/-- the items of a list or a tuple; the signs of a text -/
def items (a : EX) : EA := fun ρ D => (a ρ D).bind fun d D1 => match d with
  | .list xs => .ok xs D1
  | .tuple xs => .ok xs D1
  | _ => .stuck
def signs (a : EX) : EA := fun ρ D => (a ρ D).bind fun d D1 => match d with
  | .str z => .ok (z.cps.toList.map fun c => .str ⟨#[c]⟩) D1
  | _ => .stuck
def range1 (a : EX) : EA := fun ρ D => (a ρ D).bind fun d D1 => match d with
  | .int n => if n < 10000000 ∧ -10000000 < n then .ok ((List.range n.toNat).map fun (i : Nat) => .int (i : Int)) D1 else .stuck
  | _ => .stuck
def range2 (a b : EX) : EA := fun ρ D => (a ρ D).bind fun d D1 => (b ρ D1).bind fun d2 D2 => match d, d2 with
  | .int m, .int n => if (n < 10000000 ∧ -10000000 < n) ∧ (m < 10000000 ∧ -10000000 < m) then .ok ((List.range (n - m).toNat).map fun (i : Nat) => .int (m + i)) D2 else .stuck
  | _, _ => .stuck
/-- any that zip, enumerate take -/
def seqD : PyData → Option (List PyData)
  | .list xs => some xs
  | .tuple xs => some xs
  | .str z => some (z.cps.toList.map fun c => .str ⟨#[c]⟩)
  | _ => none
def enum (a : EX) : EA := fun ρ D => (a ρ D).bind fun d D1 => match d with
  | .list xs => .ok (xs.zipIdx.map fun p => .tuple [.int (p.2 : Int), p.1]) D1
  | .tuple xs => .ok (xs.zipIdx.map fun p => .tuple [.int (p.2 : Int), p.1]) D1
  | _ => .stuck
def zip (a b : EX) : EA := fun ρ D => (a ρ D).bind fun d D1 => (b ρ D1).bind fun d2 D2 => (ofO (seqD d) D2).bind fun xs D3 => (ofO (seqD d2) D3).bind fun ys D4 => .ok ((xs.zip ys).map fun p => .tuple [p.1, p.2]) D4
end Iv
/-- a list, a tuple that stays -/
theorem itOk_list {K : PySem.W.Frag} {p : Addr} {vs : List V} {xs : List PyData} (hp : H p = some (.lst vs)) (np : p ∉ S) (h : DtL S H vs xs) : ItOk S H xs (Itl K p) := fun i S2 H2 x dom2 => by
  have e2 : H2 p = some (.lst vs) := x.kp.there np hp
  refine ⟨fun d hd => ?_, fun hi => ⟨vs, sqL e2, by rw [h.len]; omega⟩⟩
  obtain ⟨v, hv, dv⟩ := h.get hd
  exact ⟨⟨vs, v, sqL e2, hv⟩, fun y H3 hy => by
    obtain ⟨rfl, hy⟩ := hy
    have := hy vs (sqL e2)
    rw [hv] at this
    cases this
    exact ⟨.refl, x.dt dv⟩⟩
theorem itOk_tup {K : PySem.W.Frag} {p : Addr} {vs : List V} {xs : List PyData} (hp : H p = some (.tup vs)) (h : DtL S H vs xs) : ItOk S H xs (Itt K p) := fun i S2 H2 x dom2 => by
  have e2 : H2 p = some (.tup vs) := x.kp p _ hp (.inl rfl)
  refine ⟨fun d hd => ?_, fun hi => ⟨vs, sqT e2, by rw [h.len]; omega⟩⟩
  obtain ⟨v, hv, dv⟩ := h.get hd
  exact ⟨⟨vs, v, sqT e2, hv⟩, fun y H3 hy => by
    obtain ⟨rfl, hy⟩ := hy
    have := hy vs (sqT e2)
    rw [hv] at this
    cases this
    exact ⟨.refl, x.dt dv⟩⟩
theorem vi_items {tg : Expr} (hc : Xc X C) (h : VE X C E e fa) : VI X C E tg e (Iv.items fa) := by
  obtain ⟨ta, pa, qa⟩ := h.ex
  refine ⟨_, (fun i => by have := pi_LT (tg := tg) (pa i); rw [hc.K i] at this; exact this), fun S ρ D σ H F => ?_⟩
  show PostI C E S ρ σ H _ (fun R => ta σ H fun x H1 => ∃ a, x = .ref a ∧ (((∃ xs, SqL C.G.K H1 a xs) ∧ R (Itl C.G.K a) H1) ∨ ((∃ xs, SqT C.G.K H1 a xs) ∧ R (Itt C.G.K a) H1)))
  refine PostE.bindI (qa S ρ D σ H F) fun d D1 x H1 k1 F1 h1 => ?_
  split
  · obtain ⟨a, vs, rfl, ea, na, hd⟩ := h1.seqL
    exact PostI.ok F1 (itOk_list ea na hd) fun Q hq => ⟨a, rfl, .inl ⟨⟨vs, sqL ea⟩, hq⟩⟩
  · obtain ⟨a, vs, rfl, ea, hd⟩ := h1.seqT
    exact PostI.ok F1 (itOk_tup ea hd) fun Q hq => ⟨a, rfl, .inr ⟨⟨vs, sqT ea⟩, hq⟩⟩
  · trivial
theorem vi_signs {tg : Expr} (h : VB X C E e fa) : VI X C E tg e (Iv.signs fa) := by
  obtain ⟨ta, pa, qa⟩ := h.ex
  refine ⟨_, (fun i => pi_str (pa i)), fun S ρ D σ H F => ?_⟩
  show PostI C E S ρ σ H _ (fun R => ta σ H fun v H1 => ∃ x, v = .str x ∧ R (Its x) H1)
  refine PostE.bindI (qa S ρ D σ H F) fun d D1 x H1 k1 F1 h1 => ?_
  split
  · rename_i z
    refine PostI.ok F1 (J := Its z) (fun i S2 H2 xx dom2 => ⟨fun d hd => ?_, fun hi => ?_⟩) fun Q hq => ⟨z, (h1.sn F1).str_inv, hq⟩
    · rw [List.getElem?_map] at hd
      cases q : z.cps.toList[i]? with
      | none => rw [q] at hd; cases hd
      | some c =>
        rw [q] at hd
        cases hd
        have q' : z.cps[i]? = some c := by rw [← Array.getElem?_toList]; exact q
        refine ⟨(Array.getElem?_eq_some_iff.mp q').1, fun y H3 hy => ?_⟩
        obtain ⟨rfl, c', e1, rfl⟩ := hy
        rw [q'] at e1
        cases e1
        exact ⟨.refl, .str _⟩
    · rw [List.length_map] at hi
      show z.cps.size ≤ i
      rw [hi]; exact Nat.le_refl _
  · trivial
theorem itOk_range {lo : Int} {n : Nat} : ItOk S H ((List.range n).map fun (i : Nat) => PyData.int (lo + i)) (Itr lo n) := fun i S2 H2 xx dom2 => by
  refine ⟨fun d hd => ?_, fun hi => ?_⟩
  · rw [List.getElem?_map] at hd
    cases q : (List.range n)[i]? with
    | none => rw [q] at hd; cases hd
    | some j =>
      rw [q] at hd
      cases hd
      obtain ⟨hi, e⟩ := List.getElem?_eq_some_iff.mp q
      rw [List.getElem_range] at e
      subst e
      rw [List.length_range] at hi
      exact ⟨hi, fun y H3 ⟨h1, h2⟩ => by subst h1 h2; exact ⟨.refl, .int _⟩⟩
  · rw [List.length_map, List.length_range] at hi
    show n ≤ i
    omega
theorem vi_range1 {tg : Expr} (hp : ∀ i_ ta, PE (X i_) a ta → PI (X i_) tg e (iRng1 (tCons ta tNil))) (h : VB X C E a fa) : VI X C E tg e (Iv.range1 fa) := by
  obtain ⟨ta, pa, qa⟩ := h.ex
  refine ⟨_, (fun i_ => hp i_ ta (pa i_)), fun S ρ D σ H F => ?_⟩
  show PostI C E S ρ σ H _ (fun R => ta σ H fun x H1 => ∃ j : Int, [x] = [.int j] ∧ -(2 ^ 62) ≤ j ∧ j < 2 ^ 62 ∧ R (Itr 0 j.toNat) H1)
  refine PostE.bindI (qa S ρ D σ H F) fun d D1 x H1 k1 F1 h1 => ?_
  split
  · rename_i n
    split
    · rename_i hl
      have : ((List.range n.toNat).map fun (i : Nat) => PyData.int (i : Int)) = ((List.range n.toNat).map fun (i : Nat) => PyData.int (0 + i)) := by simp
      rw [this]
      exact PostI.ok F1 itOk_range fun Q hq => ⟨n, by rw [(h1.sn F1).int_inv], by omega, by omega, hq⟩
    · trivial
  · trivial
theorem vi_range2 {tg : Expr} (hp : ∀ i_ ta tb, PE (X i_) a ta → PE (X i_) b tb → PI (X i_) tg e (iRng2 (tCons ta (tCons tb tNil)))) (h : VB X C E a fa) (h' : VB X C E b fb) : VI X C E tg e (Iv.range2 fa fb) := by
  obtain ⟨ta, pa, qa⟩ := h.ex
  obtain ⟨tb, pb, qb⟩ := h'.ex
  refine ⟨_, (fun i_ => hp i_ ta tb (pa i_) (pb i_)), fun S ρ D σ H F => ?_⟩
  show PostI C E S ρ σ H _ (fun R => ta σ H fun x H1 => tb σ H1 fun y H2 => ∃ i j : Int, [x, y] = [.int i, .int j] ∧ (-(2 ^ 62) ≤ i ∧ i < 2 ^ 62 ∧ -(2 ^ 62) ≤ j ∧ j < 2 ^ 62) ∧ R (Itr i (j - i).toNat) H2)
  refine PostE.bindI (qa S ρ D σ H F) fun d D1 x H1 k1 F1 h1 => ?_
  refine PostE.bindI (qb S ρ D1 σ H1 F1) fun d2 D2 y H2 k2 F2 h2 => ?_
  split
  · rename_i m n
    split
    · rename_i hl
      exact PostI.ok F2 itOk_range fun Q hq => ⟨m, n, by rw [((h1.kp k2.s).sn F2).int_inv, (h2.sn F2).int_inv], by omega, hq⟩
    · trivial
  · trivial
/-- a Sc for a thing that stays -/
theorem sc_of {K : PySem.W.Frag} {v : V} {d : PyData} {xs : List PyData} (h : Dt S H v d) (e : Iv.seqD d = some xs) : ∃ Z : Sc, v = Z.v ∧ Z.len = xs.length ∧ (∀ S2 H2, Ext S H S2 H2 → Z.ok K H2 ∧ ∀ i d, xs[i]? = some d → ∃ y, Z.val i = some y ∧ Dt S2 H2 y d) ∧ ((∃ z, Z = .txt z) → ∃ z, d = .str z) := by
  unfold Iv.seqD at e
  split at e
  · cases e
    obtain ⟨a, vs, rfl, ea, na, hd⟩ := h.seqL
    refine ⟨.lst a vs, rfl, hd.len, fun S2 H2 x => ⟨sqL (x.kp.there na ea), fun i d hi => ?_⟩, fun ⟨_, z⟩ => by cases z⟩
    obtain ⟨y, e1, e2⟩ := hd.get hi
    exact ⟨y, e1, x.dt e2⟩
  · cases e
    obtain ⟨a, vs, rfl, ea, hd⟩ := h.seqT
    refine ⟨.tup a vs, rfl, hd.len, fun S2 H2 x => ⟨sqT (x.kp a _ ea (.inl rfl)), fun i d hi => ?_⟩, fun ⟨_, z⟩ => by cases z⟩
    obtain ⟨y, e1, e2⟩ := hd.get hi
    exact ⟨y, e1, x.dt e2⟩
  · rename_i z
    cases e
    cases h
    refine ⟨.txt z, rfl, by rw [List.length_map]; rfl, fun S2 H2 x => ⟨trivial, fun i d hi => ?_⟩, fun _ => ⟨z, rfl⟩⟩
    rw [List.getElem?_map] at hi
    cases q : z.cps.toList[i]? with
    | none => rw [q] at hi; cases hi
    | some c =>
      rw [q] at hi
      cases hi
      refine ⟨.str ⟨#[c]⟩, ?_, .str _⟩
      show (z.cps[i]?).map _ = _
      rw [← Array.getElem?_toList, q]
      rfl
  · cases e
theorem vi_enum {tg : Expr} (hp : ∀ i_ ta, PE (X i_) a ta → PI (X i_) tg e (iEnumU C.G.K (tCons ta tNil))) (h : VE X C E a fa) : VI X C E tg e (Iv.enum fa) := by
  obtain ⟨ta, pa, qa⟩ := h.ex
  refine ⟨_, (fun i_ => hp i_ ta (pa i_)), fun S ρ D σ H F => ?_⟩
  show PostI C E S ρ σ H _ (fun R => ta σ H fun x H1 => ∃ Z : Sc, [x] = [Z.v] ∧ (∀ z, Z ≠ .txt z) ∧ Z.ok C.G.K H1 ∧ R (Itee C.G.K Z) H1)
  refine PostE.bindI (qa S ρ D σ H F) fun d D1 x H1 k1 F1 h1 => ?_
  have main : ∀ xs, Iv.seqD d = some xs → (∀ z, d ≠ .str z) → PostI C E S ρ σ H1 (.ok (xs.zipIdx.map fun p => .tuple [.int (p.2 : Int), p.1]) D1) (fun R => ∃ Z : Sc, [x] = [Z.v] ∧ (∀ z, Z ≠ .txt z) ∧ Z.ok C.G.K H1 ∧ R (Itee C.G.K Z) H1) := fun xs e nz => by
    obtain ⟨Z, rfl, hl, hz, ht⟩ := sc_of (K := C.G.K) h1 e
    refine PostI.ok F1 (J := Itee C.G.K Z) (fun i S2 H2 xx dom2 => ⟨fun d2 hd => ?_, fun hi => ?_⟩) fun Q hq => ⟨Z, rfl, fun z ez => (ht ⟨z, ez⟩).elim fun z' e' => nz z' e', (hz S H1 .refl).1, hq⟩
    · obtain ⟨ho, hv⟩ := hz S2 H2 xx
      rw [List.getElem?_map, List.getElem?_zipIdx] at hd
      cases q : xs[i]? with
      | none => rw [q] at hd; cases hd
      | some y =>
        rw [q] at hd
        cases hd
        obtain ⟨v, e1, e2⟩ := hv i y q
        refine ⟨⟨ho, by rw [hl]; exact (List.getElem?_eq_some_iff.mp q).1⟩, fun u H3 ⟨T, x', e3, n3, e4, e5⟩ => ?_⟩
        rw [e1] at e5
        cases e5
        subst e3 e4
        refine ⟨Kp.new n3, .tup upd_same ?_⟩
        rw [show (0 + i : Nat) = i by omega]
        exact (DtL.cons (.int _) (.cons e2 .nil)).kp (Kp.new n3)
    · obtain ⟨ho, hv⟩ := hz S2 H2 xx
      rw [List.length_map, List.length_zipIdx] at hi
      exact ⟨ho, by rw [hl]; exact hi⟩
  split
  · exact main _ rfl (fun _ z => by cases z)
  · exact main _ rfl (fun _ z => by cases z)
  · trivial
theorem vi_zip {tg : Expr} (hp : ∀ i_ ta tb, PE (X i_) a ta → PE (X i_) b tb → PI (X i_) tg e (iZipU C.G.K (tCons ta (tCons tb tNil)))) (h : VE X C E a fa) (h' : VE X C E b fb) : VI X C E tg e (Iv.zip fa fb) := by
  obtain ⟨ta, pa, qa⟩ := h.ex
  obtain ⟨tb, pb, qb⟩ := h'.ex
  refine ⟨_, (fun i_ => hp i_ ta tb (pa i_) (pb i_)), fun S ρ D σ H F => ?_⟩
  show PostI C E S ρ σ H _ (fun R => ta σ H fun x H1 => tb σ H1 fun y H2 => ∃ Z1 Z2 : Sc, [x, y] = [Z1.v, Z2.v] ∧ Z1.ok C.G.K H2 ∧ Z2.ok C.G.K H2 ∧ R (Itzz C.G.K Z1 Z2) H2)
  refine PostE.bindI (qa S ρ D σ H F) fun d D1 x H1 k1 F1 h1 => ?_
  refine PostE.bindI (qb S ρ D1 σ H1 F1) fun d2 D2 y H2 k2 F2 h2 => ?_
  cases q1 : Iv.seqD d with
  | none => trivial
  | some xs =>
    cases q2 : Iv.seqD d2 with
    | none => trivial
    | some ys =>
      simp only [ofO_some, bind_ok]
      obtain ⟨Z1, rfl, hl1, hz1, _⟩ := sc_of (K := C.G.K) (h1.kp k2.s) q1
      obtain ⟨Z2, rfl, hl2, hz2, _⟩ := sc_of (K := C.G.K) h2 q2
      refine PostI.ok F2 (J := Itzz C.G.K Z1 Z2) (fun i S2 H3 xx dom2 => ⟨fun d2 hd => ?_, fun hi => ?_⟩) fun Q hq => ⟨Z1, Z2, rfl, (hz1 S H2 .refl).1, (hz2 S H2 .refl).1, hq⟩
      · obtain ⟨ho1, hv1⟩ := hz1 S2 H3 xx
        obtain ⟨ho2, hv2⟩ := hz2 S2 H3 xx
        rw [List.getElem?_map] at hd
        cases q : (xs.zip ys)[i]? with
        | none => rw [q] at hd; cases hd
        | some p =>
          rw [q] at hd
          cases hd
          obtain ⟨e1, e2⟩ := List.getElem?_zip_eq_some.mp q
          obtain ⟨u1, f1, g1⟩ := hv1 i _ e1
          obtain ⟨u2, f2, g2⟩ := hv2 i _ e2
          have l1 := (List.getElem?_eq_some_iff.mp e1).1
          have l2 := (List.getElem?_eq_some_iff.mp e2).1
          refine ⟨⟨ho1, ho2, by rw [hl1, hl2]; omega⟩, fun u H4 ⟨T, x', y', e3, n3, e4, e5, e6⟩ => ?_⟩
          rw [f1] at e5
          rw [f2] at e6
          cases e5
          cases e6
          subst e3 e4
          exact ⟨Kp.new n3, .tup upd_same ((DtL.cons g1 (.cons g2 .nil)).kp (Kp.new n3))⟩
      · obtain ⟨ho1, hv1⟩ := hz1 S2 H3 xx
        obtain ⟨ho2, hv2⟩ := hz2 S2 H3 xx
        rw [List.length_map, List.length_zip] at hi
        exact ⟨ho1, ho2, by rw [hl1, hl2]; exact hi⟩
end
end Fx
set_option Elab.async false
set_option linter.all false
set_option maxRecDepth 100000
set_option maxHeartbeats 2000000
namespace Fx
open PySem PySem.Spec PyProof.Rows L2 Kb
variable [Nm]
/-! ### comprehensions -/
def wipeE (ρ : Env) : List Nat → Env
  | [] => ρ
  | v :: vs => (wipeE ρ vs).set v none
theorem wipeE_len (ρ : Env) : ∀ vs : List Nat, (wipeE ρ vs).length = ρ.length
  | [] => rfl
  | v :: vs => by unfold wipeE; rw [List.length_set, wipeE_len ρ vs]
theorem wipeE_some {ρ : Env} {i : Nat} {x : T} : ∀ {vs : List Nat}, (wipeE ρ vs)[i]? = some (some x) → ρ[i]? = some (some x) ∧ i ∉ vs
  | [], h => ⟨h, by simp⟩
  | v :: vs, h => by
    unfold wipeE at h
    by_cases hi : v = i
    · subst hi
      by_cases hv : v < (wipeE ρ vs).length
      · rw [List.getElem?_set_self hv] at h; cases h
      · rw [List.getElem?_eq_none (by simpa using hv)] at h; cases h
    · rw [List.getElem?_set_ne hi] at h
      obtain ⟨h1, h2⟩ := wipeE_some h
      exact ⟨h1, by simp only [List.mem_cons, not_or]; exact ⟨fun e => hi e.symm, h2⟩⟩
theorem wipeE_off {ρ : Env} {i : Nat} : ∀ {vs : List Nat}, i ∉ vs → (wipeE ρ vs)[i]? = ρ[i]?
  | [], _ => rfl
  | v :: vs, h => by
    unfold wipeE
    rw [List.getElem?_set_ne (fun e => h (by rw [e]; exact List.mem_cons_self))]
    exact wipeE_off fun m => h (List.mem_cons_of_mem _ m)
theorem wipe_off {σ : St} {i : Nat} : ∀ {vs : List Nat}, i ∉ vs → (wipe σ vs)[i]? = σ[i]?
  | [], _ => rfl
  | v :: vs, h => by
    unfold wipe
    rw [List.getElem?_set_ne (fun e => h (by rw [e]; exact List.mem_cons_self))]
    exact wipe_off fun m => h (List.mem_cons_of_mem _ m)
theorem wipe_in {σ : St} {i : Nat} (hi : i < σ.length) : ∀ {vs : List Nat}, i ∈ vs → (wipe σ vs)[i]? = some none
  | [], h => absurd h List.not_mem_nil
  | v :: vs, h => by
    unfold wipe
    by_cases e : v = i
    · subst e
      exact List.getElem?_set_self (by rw [wipe_length]; exact hi)
    · rw [List.getElem?_set_ne e]
      exact wipe_in hi ((List.mem_cons.mp h).resolve_left fun z => e z.symm)
theorem wipe_eq {σ σ' : St} {vs ks : List Nat} (hl : σ'.length = σ.length) (ho : ∀ j : Nat, j ∉ ks → σ'[j]? = (wipe σ vs)[j]?) (hk : ∀ k ∈ ks, k ∈ vs) : wipe σ' vs = wipe σ vs := by
  apply List.ext_getElem?
  intro i
  by_cases hi : i < σ.length
  · by_cases m : i ∈ vs
    · rw [wipe_in (by rw [hl]; exact hi) m, wipe_in hi m]
    · rw [wipe_off m, wipe_off m, ho i fun z => m (hk i z), wipe_off m]
  · rw [List.getElem?_eq_none (by rw [wipe_length, hl]; omega), List.getElem?_eq_none (by rw [wipe_length]; omega)]
section
variable {ι : Type} {X : ι → Cx} {C : Ct} {E : XK} {fr : Bool} {S : List Addr} {ρ : Env} {D : Dw} {σ : St} {H : Hp} {Dn : Ends}
variable {a b c e : Expr} {st : Stmt} {rest sts sts' : List Stmt} {es : List Expr} {pos : Pos} {fa fb fc : EX} {ga gb : EB} {aa : EA} {f g : ST}
theorem Fm.wipe (F : Fm C S ρ D σ H) (vs : List Nat) : Fm C S (wipeE ρ vs) D (L2.wipe σ vs) H where
  len := by rw [wipe_length, wipeE_len, F.len]
  slot := fun i t e => by
    obtain ⟨e1, n⟩ := wipeE_some e
    obtain ⟨v, s, h⟩ := F.slot i t e1
    exact ⟨v, by rw [wipe_off n]; exact s, h⟩
  uniq := fun i j t u v hij e1 e2 o1 o2 s1 s2 => by
    obtain ⟨f1, n1⟩ := wipeE_some e1
    obtain ⟨f2, n2⟩ := wipeE_some e2
    rw [wipe_off n1] at s1
    rw [wipe_off n2] at s2
    exact F.uniq i j t u v hij f1 f2 o1 o2 s1 s2
  base := F.base
  dom := F.dom
  kp := F.kp
  tb := F.tb
  dr := F.dr
  drc := F.drc
theorem Kp.put {U : List Addr} {H0 : Hp} {p : Addr} {o : HO} (a : Kp U H0 H) (n : H0 p = none) : Kp U H0 (upd H p o) := fun b x e h => by rw [upd_ne (ne_of_none e n)]; exact a b x e h
theorem Fm.shrink {p : Addr} {D' : Dw} {H' : Hp} (F : Fm C S ρ D σ H) (F' : Fm C (p :: S) ρ D' σ H') : Fm C S ρ D' σ H' where
  len := F'.len
  slot := fun i t e => by
    obtain ⟨v, s, h⟩ := F'.slot i t e
    refine ⟨v, s, h.mk .refl (fun b m => .inl (List.mem_cons_of_mem _ m)) fun o a ea m => ⟨?_, fun _ q => q⟩⟩
    obtain ⟨a', ea', ma'⟩ := F.ownS e o s
    rw [ea] at ea'
    cases ea'
    exact ma'
  uniq := F'.uniq
  base := F.base
  dom := fun a m => F'.dom a (List.mem_cons_of_mem _ m)
  kp := F'.kp
  tb := F'.tb
  dr := F'.dr
  drc := F'.drc
/-- the contexts of a comprehension's block -/
def blkX (X : ι → Cx) (scope : Scope) : ι × Shared × Hp × Addr × List (Str × Addr) × List Addr → Cx := fun j => (X j.1).blk j.2.1 j.2.2.1 scope (compEnvC scope j.2.2.2.2.1 j.2.2.2.1 (X j.1).env) j.2.2.2.2.2
structure VTs {ι : Type} (X : ι → Cx) (C : Ct) (E : XK) (ifs : List Expr) (f : EB) : Prop where
  ex : ∃ t, (∀ i, PTs (X i) ifs t) ∧ RdT C E t f
namespace Ev
def yes : EB := fun _ D => .ok true D
def lcLoop (ρ : Env) (g : EG) (t : EB) (a : EX) : List PyData → Dw → R (List PyData)
  | [], D => .ok [] D
  | d :: r, D => match g d ρ with
    | none => .stuck
    | some ρ1 => match t ρ1 D with
      | .ok true D1 => match a ρ1 D1 with
        | .ok y D2 => (lcLoop ρ g t a r D2).bind fun ys D3 => .ok (y :: ys) D3
        | _ => .stuck
      | .ok false D1 => lcLoop ρ g t a r D1
      | _ => .stuck
/-- [a for g in it if t] -/
def noOwn (ρ : Env) (vs : List Nat) : Bool := vs.all fun v => match ρ[v]? with
  | some (some t) => !own t
  | _ => true
def lc (vs : List Nat) (it : EA) (g : EG) (t : EB) (a : EX) : EX := fun ρ D => (it ρ D).bind fun ds D1 => if ds.length < 10000000 ∧ noOwn ρ vs = true then (lcLoop (wipeE ρ vs) g t a ds D1).bind fun ys D2 => .ok (.list ys) D2 else .stuck
end Ev
theorem vts_nil : VTs X C E [] Ev.yes := ⟨_, fun _ => pts_nil, fun S ρ D σ H F => PostT.ok F fun Q hq => hq⟩
theorem vts_one (h : VT X C E c ga) : VTs X C E [c] ga := let ⟨_, p, q⟩ := h.ex; ⟨_, fun i => pts_one (p i), q⟩
theorem lc_noerr {ρ : Env} {gg : EG} {c : Str} {fs : List (PyData × PyData)} {D2 : Dw} : ∀ (ds : List PyData) (D : Dw), Ev.lcLoop ρ gg ga fa ds D ≠ .err c fs D2
  | [], D, h => by unfold Ev.lcLoop at h; cases h
  | d :: r, D, h => by
    unfold Ev.lcLoop at h
    split at h
    · cases h
    · split at h
      · split at h
        · rename_i y D3 _
          cases q : Ev.lcLoop ρ gg ga fa r D3 with
          | stuck => rw [q] at h; cases h
          | ok ys D4 => rw [q] at h; cases h
          | err c2 fs2 D4 => exact lc_noerr r D3 q |>.elim
        · cases h
      · rename_i D3 _
        exact lc_noerr r D3 h
      · cases h
/-- the block's reading, from the walk on -/
theorem lc_run {J : It} {t : TG} {tt : TT} {te : TE} {gg : EG} {vs ks : List Nat} {ds ys : List PyData} {D2 : Dw} {Q : VK} {p : Addr} (hks : ∀ k ∈ ks, k ∈ vs)
    (qt : ∀ S ρ D σ H v d ρ', Fm C S ρ D σ H → Dt S H v d → gg d ρ = some ρ' → ∀ Q : St → Hp → Prop, (∀ σ', Fm C S ρ' D σ' H → Off ks ρ ρ' σ σ' → Q σ' H) → t v σ H Q)
    (qi : RdT C E0 tt ga) (qe : RdE C E0 te fa) (F : Fm C S ρ D σ H) (hJ : ItOk S H ds J) (hl : ds.length < 10000000) (hno : Ev.noOwn ρ vs = true) (hr : Ev.lcLoop (wipeE ρ vs) gg ga fa ds D = .ok ys D2) (n : H p = none)
    (q : ∀ vs' H', Fm C (p :: S) ρ D2 σ H' → Kq C S H H' → H' p = some (.lst vs') → DtL (p :: S) H' vs' ys → Q (.ref p) H') :
    ∃ W : Nat → Nat → Hp → Prop, (∃ m, W 0 m (upd H p (.lst []))) ∧ ∀ i m H, W i m H →
      (J.stop i H ∧ Q (.ref p) H) ∨ (J.go i H ∧ ∃ Nx : Hp → Prop, (∀ H', Nx H' → ∃ m', m' < m ∧ W (i + 1) m' H') ∧ ∀ x H', J.yld i H x H' → t x (L2.wipe σ vs) H' fun σ2 H2 => L2.wipe σ2 vs = L2.wipe σ vs ∧ tt σ2 H2 fun b H3 =>
        if b = true then te σ2 H3 fun y H4 => ∃ acc, H4 p = some (.lst acc) ∧ acc.length < sizeLine ∧ Nx (upd H4 p (.lst (acc ++ [y]))) else Nx H3) := by
  have F0 : Fm C (p :: S) ρ D σ (upd H p (.lst [])) := F.newS n
  have np : p ∉ S := fun m => F.dom p m n
  have nch : p ∉ C.ch := fun m => np (F.base p (.inl m))
  have nU : p ∉ C.U := fun m => np (F.base p (.inr m))
  have x0 : Ext S H (p :: S) (upd H p (.lst [])) := ⟨Kp.new n, fun b m => (List.mem_cons.mp m).elim (fun z => .inr (z ▸ n)) .inl⟩
  -- a list that only we hold may be written
  have wr : ∀ {ρ' : Env} {D' : Dw} {σ' : St} {H1 : Hp} {acc us : List V}, Fm C (p :: S) ρ' D' σ' H1 → H1 p = some (.lst acc) → (∀ (j : Nat) (u : T), ρ'[j]? = some (some u) → own u = true → σ'[j]? ≠ some (some (V.ref p))) → Fm C (p :: S) ρ' D' σ' (upd H1 p (.lst us)) ∧ Kp (p :: S) H1 (upd H1 p (.lst us)) := by
    intro ρ' D' σ' H1 acc us F1 hp1 hno
    have kS : Kp (p :: S) H1 (upd H1 p (.lst us)) := Kp.refl.set List.mem_cons_self fun u hu => by rw [hp1] at hu; cases hu; rfl
    have stay : ∀ {b : Addr} {u : HO}, b ≠ p → H1 b = some u → upd H1 p (.lst us) b = some u := fun n q => by rw [upd_ne n]; exact q
    refine ⟨⟨F1.len, fun j u ej => ?_, F1.uniq, F1.base, fun b m => ?_, ?_, ⟨fun P m => ?_, fun q m => ?_⟩, ?_, F1.drc⟩, kS⟩
    · obtain ⟨v, s1, h1⟩ := F1.slot j u ej
      refine ⟨v, s1, h1.mk kS (fun _ m => .inl m) fun ou a ea m => ⟨m, fun ob eb => stay (fun z => ?_) eb⟩⟩
      subst z
      rw [ea] at s1
      exact hno j u ej ou s1
    · by_cases hb : b = p
      · subst hb; rw [upd_same]; exact (fun z => by cases z)
      · rw [upd_ne hb]; exact F1.dom b m
    · exact fun x ob ex hx => by
        have := F1.kp x ob ex hx
        exact stay (fun z => by rw [z, F.ch0 n] at ex; cases ex) this
    · obtain ⟨ps, ep, tr⟩ := F1.tb.g P m
      exact ⟨ps, stay (fun z => nch (z ▸ List.mem_append_left _ (List.mem_append_left _ m))) ep, tr⟩
    · obtain ⟨ps, ep, tr, q2⟩ := F1.tb.q q m
      refine ⟨ps, stay (fun z => nch (z ▸ List.mem_append_left _ (List.mem_append_right _ (List.mem_map.mpr ⟨q, m, rfl⟩)))) ep, tr, fun pos cv z => ?_⟩
      obtain ⟨cc, rfl, y⟩ := q2 pos cv z
      refine ⟨cc, rfl, stay (fun z => ?_) y⟩
      subst z
      rw [y] at hp1
      cases hp1
    · have hd := F1.dr
      unfold DrO at *
      split at hd
      · rename_i d w c ec
        have m1 : d ∈ C.ch := List.mem_append_right _ (by unfold Ct.dch; rw [ec]; simp)
        have m2 : w ∈ C.ch := List.mem_append_right _ (by unfold Ct.dch; rw [ec]; simp)
        exact ⟨stay (fun z => nch (z ▸ m1)) hd.dr, stay (fun z => nch (z ▸ m2)) hd.wi, stay (fun z => F1.drc d w c ec (z ▸ F.ch0 n)) hd.ce, hd.lw, hd.lc, hd.wc⟩
      · trivial
  refine ⟨fun i m H1 => ∃ D1 acc xs, Fm C (p :: S) ρ D1 σ H1 ∧ Kp C.ch H H1 ∧ Ext S H (p :: S) H1 ∧ H1 p = some (.lst acc) ∧ DtL (p :: S) H1 acc xs ∧ i ≤ ds.length ∧ xs.length ≤ i ∧ m = ds.length - i ∧ ∃ zs, Ev.lcLoop (wipeE ρ vs) gg ga fa (ds.drop i) D1 = .ok zs D2 ∧ ys = xs ++ zs,
    ⟨_, D, [], [], F0, Kp.new n, x0, upd_same, .nil, Nat.zero_le _, Nat.le_refl _, rfl, ys, hr, rfl⟩, ?_⟩
  rintro i m H1 ⟨D1, acc, xs, F1, c1, x1, hp1, hacc, hi, hxs, rfl, zs, hz, rfl⟩
  obtain ⟨hgo, hstop⟩ := hJ i (p :: S) H1 x1 F1.dom
  by_cases hlt : i < ds.length
  · have hd : ds[i]? = some ds[i] := List.getElem?_eq_getElem hlt
    have hdrop : ds.drop i = ds[i] :: ds.drop (i + 1) := List.drop_eq_getElem_cons hlt
    generalize ds[i] = d at hd hdrop
    obtain ⟨hg1, hy⟩ := hgo d hd
    rw [hdrop] at hz
    unfold Ev.lcLoop at hz
    refine .inr ⟨hg1, fun H2 => ∃ D3 acc xs', Fm C (p :: S) ρ D3 σ H2 ∧ Kp C.ch H H2 ∧ Ext S H (p :: S) H2 ∧ H2 p = some (.lst acc) ∧ DtL (p :: S) H2 acc xs' ∧ xs'.length ≤ i + 1 ∧ ∃ zs', Ev.lcLoop (wipeE ρ vs) gg ga fa (ds.drop (i + 1)) D3 = .ok zs' D2 ∧ xs ++ zs = xs' ++ zs', ?_, fun x H2 hx => ?_⟩
    · rintro H2 ⟨D3, acc2, xs2, F2, c2, x2, hp2, h2, hl2, zs2, hz2, e2⟩
      exact ⟨_, by omega, D3, acc2, xs2, F2, c2, x2, hp2, h2, hlt, hl2, rfl, zs2, hz2, e2⟩
    · obtain ⟨k2, hx2⟩ := hy x H2 hx
      have F2 := F1.grow k2
      have x2 : Ext S H (p :: S) H2 := x1.trans (Ext.of k2.of)
      have hp2 : H2 p = some (.lst acc) := k2 p _ hp1 (.inr List.not_mem_nil)
      cases hgg : gg d (wipeE ρ vs) with
      | none => rw [hgg] at hz; cases hz
      | some ρ1 =>
        rw [hgg] at hz
        refine qt (p :: S) (wipeE ρ vs) D1 (L2.wipe σ vs) H2 x d ρ1 (F2.wipe vs) hx2 hgg _ fun σ2 F3 ho => ⟨wipe_eq (by rw [ho.len, wipe_length]) ho.at_ hks, ?_⟩
        have noown : ∀ (j : Nat) (u : Fx.T), ρ1[j]? = some (some u) → own u = true → σ2[j]? ≠ some (some (V.ref p)) := fun j u e o s => by
          obtain ⟨e1, n1⟩ := ho.own j u e o
          obtain ⟨e2, n2⟩ := wipeE_some e1
          rw [ho.at_ j n1, wipe_off n2] at s
          obtain ⟨a, ea, ma⟩ := F.ownS e2 o s
          cases ea
          exact np ma
        have T := qi (p :: S) ρ1 D1 σ2 H2 F3
        cases hb : ga ρ1 D1 with
        | stuck => simp only [hb] at hz; cases hz
        | err c fs D3 => simp only [hb] at hz; cases hz
        | ok bb D3 =>
          simp only [hb] at hz
          rw [hb] at T
          refine T _ fun H3 k3 F4 => ?_
          have x3 := x2.trans (Ext.of k3.s)
          have back : ∀ {D' : Dw} {H' : Hp}, Fm C (p :: S) ρ1 D' σ2 H' → Ext (p :: S) H2 (p :: S) H' → Fm C (p :: S) ρ D' σ H' := fun {D' H'} F' x' => by
            refine ⟨F.len, fun j t e => ?_, F.uniq, F'.base, F'.dom, F'.kp, F'.tb, F'.dr, F'.drc⟩
            obtain ⟨v, s1, h1⟩ := F2.slot j t e
            by_cases ot : own t = true
            · have nj : j ∉ vs := fun m => by
                have := List.all_eq_true.mp hno j m
                rw [e] at this
                simp only [ot, Bool.not_true] at this
                cases this
              have nk : j ∉ ks := fun m => nj (hks j m)
              have e1 : ρ1[j]? = some (some t) := by
                rw [ho.keep j nk]
                exact (wipeE_off nj).trans e
              obtain ⟨v2, s2, h2⟩ := F'.slot j t e1
              rw [ho.at_ j nk, wipe_off nj] at s2
              exact ⟨v2, s2, h2⟩
            · exact ⟨v, s1, h1.mk x'.kp (fun _ m => .inl m) fun z => absurd z ot⟩
          cases bb with
          | false =>
            simp only [Bool.false_eq_true, if_false]
            exact ⟨D3, acc, xs, back F4 (Ext.of k3.s), (c1.trans k2.of).trans k3.c, x3, k3.c p _ hp2 (.inr nch), (hacc.kp k2.of).kp k3.s, by omega, zs, hz, rfl⟩
          | true =>
            simp only [if_true]
            have T2 := qe (p :: S) ρ1 D3 σ2 H3 F4
            cases hf : fa ρ1 D3 with
            | stuck => simp only [hf] at hz; cases hz
            | err c fs D4 => simp only [hf] at hz; cases hz
            | ok y D4 =>
              simp only [hf] at hz
              rw [hf] at T2
              refine T2 _ fun yv H4 k4 F5 hy5 => ?_
              cases hq : Ev.lcLoop (wipeE ρ vs) gg ga fa (ds.drop (i + 1)) D4 with
              | stuck => rw [hq] at hz; cases hz
              | err c fs D5 => rw [hq] at hz; cases hz
              | ok zs2 D5 =>
                rw [hq] at hz
                simp only [bind_ok] at hz
                cases hz
                have hp4 : H4 p = some (.lst acc) := k4.c p _ (k3.c p _ hp2 (.inr nch)) (.inr nch)
                have x4 := x3.trans (Ext.of k4.s)
                have F6 : Fm C (p :: S) ρ D4 σ H4 := back F5 ((Ext.of k3.s).trans (Ext.of k4.s))
                have hacc4 : DtL (p :: S) H4 acc xs := ((hacc.kp k2.of).kp k3.s).kp k4.s
                have noown0 : ∀ (j : Nat) (u : Fx.T), ρ[j]? = some (some u) → own u = true → σ[j]? ≠ some (some (V.ref p)) := fun j u e o s => by
                  obtain ⟨a, ea, ma⟩ := F.ownS e o s
                  cases ea
                  exact np ma
                obtain ⟨F7, k7⟩ := wr (us := acc ++ [yv]) F6 hp4 noown0
                refine ⟨acc, hp4, by rw [hacc4.len]; exact bigM (by omega), D4, acc ++ [yv], xs ++ [y], F7, (((c1.trans k2.of).trans k3.c).trans k4.c).put n, x4.trans (Ext.of k7), upd_same, (hacc4.snoc hy5).kp k7, ?_, zs2, hq, ?_⟩
                · rw [List.length_append]
                  show xs.length + 1 ≤ i + 1
                  omega
                · rw [List.append_assoc]
                  rfl
  · have : i = ds.length := by omega
    subst this
    refine .inl ⟨hstop rfl, ?_⟩
    rw [List.drop_length] at hz
    unfold Ev.lcLoop at hz
    cases hz
    rw [List.append_nil] at q
    exact q acc H1 F1 ⟨c1, x1.kp⟩ hp1 hacc
/-- a list comprehension of one clause -/
theorem rd_lc {w : TI} {t : TG} {tt : TT} {te : TE} {it : EA} {gg : EG} {vs ks : List Nat} (hks : ∀ k ∈ ks, k ∈ vs)
    (qw : ∀ S ρ D σ H, Fm C S ρ D σ H → PostI C E S ρ σ H (it ρ D) (fun Q => w σ H Q))
    (qt : ∀ S ρ D σ H v d ρ', Fm C S ρ D σ H → Dt S H v d → gg d ρ = some ρ' → ∀ Q : St → Hp → Prop, (∀ σ', Fm C S ρ' D σ' H → Off ks ρ ρ' σ σ' → Q σ' H) → t v σ H Q)
    (qi : RdT C E0 tt ga) (qe : RdE C E0 te fa) : ∀ S ρ D σ H, Fm C S ρ D σ H → PostF C E S ρ σ H (Ev.lc vs it gg ga fa ρ D) (fun Q => tLc w t tt te vs σ H Q) := by
  intro S ρ D σ H F
  have A := qw S ρ D σ H F
  unfold Ev.lc
  cases hr : it ρ D with
  | stuck => trivial
  | err c fs D1 => rw [hr] at A; exact fun e Q => A e _
  | ok ds D1 =>
    rw [hr] at A
    simp only [bind_ok]
    split
    · rename_i hl
      cases hlp : Ev.lcLoop (wipeE ρ vs) gg ga fa ds D1 with
      | stuck => trivial
      | err c fs D2 => exact absurd hlp (lc_noerr ds D1)
      | ok ys D2 =>
        simp only [bind_ok]
        refine fun Q hq => A _ fun J H1 k1 F1 hJ => ?_
        refine fun p n => lc_run hks qt qi qe F1 hJ hl.1 hl.2 hlp n fun vs' H' F2 k2 hp hd => ?_
        exact hq _ H' (k1.trans k2) (F1.shrink F2) ⟨p, rfl, up_none F k1.s n (fun m => F1.dom p m n), F2, .inl ⟨vs', ys, rfl, hp, hd⟩⟩
    · trivial
theorem vf_lc {tg iter elt : Expr} {ifs : List Expr} {scope : Scope} {it : EA} {gg : EG} {vs ks : List Nat} (hi : VI X C E tg iter it) (hg : VG (blkX X scope) C tg ks gg) (ht : VTs (blkX X scope) C E0 ifs ga) (he : VE (blkX X scope) C E0 elt fa) (hks : ∀ k ∈ ks, k ∈ vs)
    (hp : ∀ i_ w t tt te, PI (X i_) tg iter w → (∀ (s : Shared) (H : Hp) (A : Addr) (cl : List (Str × Addr)) (fp : List Addr), PG ((X i_).blk s H scope (compEnvC scope cl A (X i_).env) fp) tg t) → (∀ (s : Shared) (H : Hp) (A : Addr) (cl : List (Str × Addr)) (fp : List Addr), PTs ((X i_).blk s H scope (compEnvC scope cl A (X i_).env) fp) ifs tt) →
      (∀ (s : Shared) (H : Hp) (A : Addr) (cl : List (Str × Addr)) (fp : List Addr), PE ((X i_).blk s H scope (compEnvC scope cl A (X i_).env) fp) elt te) → PE (X i_) e (tLc w t tt te vs)) : VF X C E e (Ev.lc vs it gg ga fa) := by
  obtain ⟨w, pw, qw⟩ := hi.ex
  obtain ⟨t, pt, qt⟩ := hg.ex
  obtain ⟨tt, ptt, qi⟩ := ht.ex
  obtain ⟨te, pe, qe⟩ := he.ex
  exact ⟨_, fun i => hp i w t tt te (pw i) (fun s H A cl fp => pt (i, s, H, A, cl, fp)) (fun s H A cl fp => ptt (i, s, H, A, cl, fp)) (fun s H A cl fp => pe (i, s, H, A, cl, fp)), rd_lc hks qw qt qi qe⟩
end
end Fx
set_option Elab.async false
set_option linter.all false
set_option maxRecDepth 100000
set_option maxHeartbeats 2000000
namespace Fx
open PySem PySem.Spec PyProof.Rows L2 Kb
variable [Nm]
/-! ### defs -/
/-- a def of data alone (dr: its first argument is the draw; fr: what it returns is new) -/
def spF (G : Gt) (dr fr : Bool) (n : Nat) (F : List PyData → Dw → R PyData) : Sp := fun vs H Q E => ∃ (U : List Addr) (dd : Option (Addr × Addr × Addr)) (ds : List PyData) (D : Dw) (us : List V),
  dd.isSome = dr ∧ vs = (match dd with | some (d, _, _) => V.ref d :: us | none => us) ∧ ds.length = n ∧ (∀ a, a ∈ (Ct.mk G dd U H).ch ∨ a ∈ U → H a ≠ none) ∧ TbOk G H ∧ DrO dd H D ∧ DtL ((Ct.mk G dd U H).ch ++ U) H us ds ∧
  match F ds D with
  | .stuck => False
  | .ok r D' => ∀ v H', EndOk (Ct.mk G dd U H) D' H' → Rv (Ct.mk G dd U H) fr H' v r → Q v H'
  | .err c fs D' => ErrP (Ct.mk G dd U H) E D' c fs
/-- the names at the entry -/
def env0 (dr : Bool) (m : Nat) (ds : List PyData) : Env := (if dr = true then [some T.w] else []) ++ ds.map (fun d => some (T.d d)) ++ List.replicate (m - (if dr = true then 1 else 0) - ds.length) none
def runF (ex dr fr : Bool) (m : Nat) (f : ST) (ds : List PyData) (D : Dw) : R PyData := match f (env0 dr m ds) D with
  | .ok (.ret d, _) D' => .ok d D'
  | .ok (.nx, _) D' => if fr = true then .stuck else .ok .none D'
  | .err c fs D' => if ex = true then .err c fs D' else .stuck
  | _ => .stuck
section
variable {P : Program} {w : World} {K : PySem.W.Frag} {mg : Str → Option Value} {base : Heap}
theorem spF_len {G : Gt} {dr fr : Bool} {n : Nat} {F : List PyData → Dw → R PyData} {vs : List V} {H : Hp} {Q : VK} {E : XK} (h : spF G dr fr n F vs H Q E) : vs.length = (if dr = true then 1 else 0) + n := by
  obtain ⟨U, dd, ds, D, us, h1, rfl, h2, _, _, _, h3, _⟩ := h
  have := h3.len
  cases dd with
  | none => cases h1; simp; omega
  | some q => obtain ⟨d, w, c⟩ := q; cases h1; simp; omega
/-- at the entry -/
theorem fm_start {G : Gt} {dd : Option (Addr × Addr × Addr)} {U : List Addr} {H : Hp} {ds : List PyData} {us vs : List V} {D : Dw} {N : List Str} (hv : vs = (match dd with | some (d, _, _) => V.ref d :: us | none => us)) (hn : vs.length ≤ N.length)
    (hd : ∀ a, a ∈ (Ct.mk G dd U H).ch ∨ a ∈ U → H a ≠ none) (ht : TbOk G H) (hD : DrO dd H D) (h : DtL ((Ct.mk G dd U H).ch ++ U) H us ds) : Fm (Ct.mk G dd U H) ((Ct.mk G dd U H).ch ++ U) (env0 dd.isSome N.length ds) D (L2.start N vs) H := by
  have hl := h.len
  have hs : L2.start N vs = (match dd with | some (d, _, _) => [some (V.ref d)] | none => []) ++ us.map some ++ List.replicate (N.length - vs.length) none := by
    unfold L2.start
    subst hv
    cases dd with
    | none => rfl
    | some q => rfl
  have hlen : (L2.start N vs).length = (env0 dd.isSome N.length ds).length := by
    rw [hs]
    subst hv
    unfold env0
    cases dd with
    | none => simp; omega
    | some q => obtain ⟨d, w, c⟩ := q; simp; omega
  have noown : ∀ (i : Nat) (t : T), (env0 dd.isSome N.length ds)[i]? = some (some t) → own t = false ∧ ∃ v, (L2.start N vs)[i]? = some (some v) ∧ Rt (Ct.mk G dd U H) ((Ct.mk G dd U H).ch ++ U) H v t := fun i t e => by
    rw [hs]
    unfold env0 at e
    have rest : ∀ j, ((ds.map (fun d => some (T.d d)) ++ List.replicate (N.length - (if dd.isSome = true then 1 else 0) - ds.length) none))[j]? = some (some t) → own t = false ∧ ∃ v, ((us.map some ++ List.replicate (N.length - vs.length) none))[j]? = some (some v) ∧ Rt (Ct.mk G dd U H) ((Ct.mk G dd U H).ch ++ U) H v t := fun j e => by
      by_cases hj : j < ds.length
      · rw [List.getElem?_append_left (by simpa using hj), List.getElem?_map] at e
        cases q : ds[j]? with
        | none => rw [q] at e; cases e
        | some d =>
          rw [q] at e
          cases e
          obtain ⟨v, hv1, hv2⟩ := h.get q
          refine ⟨rfl, v, ?_, hv2⟩
          rw [List.getElem?_append_left (by rw [List.length_map, hl]; exact hj), List.getElem?_map, hv1]
          rfl
      · rw [List.getElem?_append_right (by rw [List.length_map]; omega)] at e
        have := List.mem_of_getElem? e
        have := List.eq_of_mem_replicate this
        cases this
    cases dd with
    | none =>
      simp only [Option.isSome_none, Bool.false_eq_true, if_false, List.nil_append] at e ⊢
      exact rest i (by simpa using e)
    | some q =>
      obtain ⟨d, w, c⟩ := q
      simp only [Option.isSome_some, if_true] at e ⊢
      cases i with
      | zero =>
        cases e
        exact ⟨rfl, .ref d, rfl, d, w, c, rfl, rfl⟩
      | succ i =>
        exact rest i (by simpa using e)
  exact {
    len := hlen
    slot := fun i t e => (noown i t e).2
    uniq := fun i j t u v _ e _ o _ _ _ => by rw [(noown i t e).1] at o; cases o
    base := fun a m => List.mem_append.mpr m
    dom := fun a m => hd a (List.mem_append.mp m)
    kp := .refl
    tb := ht
    dr := hD
    drc := fun d w c e => by
      cases e
      have hD : DrE H d w c D := hD
      show H c ≠ none
      rw [hD.ce]
      exact (fun z => by cases z) }
/-- a def that raises nothing, by its body -/
theorem okF {x qual : Str} {st : Stmt} {fa : Addr} {fd : FuncData} {N ps : List Str} {k n : Nat} {G : Gt} {dr fr : Bool} {f : ST} (F : Fun K x qual st fa fd) (S : FnScope N ps (defScope st)) (hps : ps.length = (if dr = true then 1 else 0) + n) (hN : ps.length ≤ N.length)
    (hb : ∀ (cdv : Value) (A : Around) (outer : List PySem.Env) (s : Shared) (H : Hp) (E : XK) (U : List Addr) (dd : Option (Addr × Addr × Addr)), Room k (A.deeper (envOfC qual (defScope st) s.heap.objs.size fa cdv)) →
      VSs (fun _ : Unit => (cxOf CX0 P w K mg base N qual (defScope st) fa cdv A outer s H E).nox) (Ct.mk G dd U H) E0 fr (defBody st) f) :
    FnOk P w K mg base CX0 (k + 1) fa fd ps (spF G dr fr n (runF false dr fr N.length f)) := by
  refine F.ok S (fun vs H Q E h => by rw [spF_len h, hps]) (fun cdv A outer s H vs Q E hr h => ?_)
  have hlv := spF_len h
  obtain ⟨U, dd, ds, D, us, h1, hv, h2, h3, h4, h5, h6, h7⟩ := h
  obtain ⟨t, p, q⟩ := (hb cdv A outer s H E U dd hr).ex
  refine ⟨t, p (), ?_⟩
  have F0 := fm_start (N := N) hv (by rw [hlv, ← hps]; exact hN) h3 h4 h5 h6
  have B := q _ _ D _ H { nx := fun _ H' => Q .non H', rt := Q } F0
  unfold runF at h7
  rw [← h1] at h7
  cases hf : f (env0 dd.isSome N.length ds) D with
  | stuck => rw [hf] at h7; exact h7.elim
  | err c fs D' =>
    rw [hf] at h7
    dsimp only at h7
    rw [if_neg (by decide)] at h7
    exact h7.elim
  | ok pp D' =>
    rw [hf] at h7 B
    obtain ⟨o, ρ'⟩ := pp
    cases o with
    | nx =>
      cases fr with
      | true => exact h7.elim
      | false => exact B fun S' σ' H' x F' => h7 .non H' F'.end (.non : Dt _ _ _ _)
    | ret d => exact B fun v H' e r => h7 v H' e r
    | brk => exact h7.elim
    | ct => exact h7.elim
end
/-! ### calls -/
namespace Ev
/-- a def of data alone; one that draws -/
def call0 (n : Nat) (F : List PyData → Dw → R PyData) (a : EA) : EX := fun ρ D => (a ρ D).bind fun ds D1 => if ds.length = n then match F ds D1 with
  | .ok r _ => .ok r D1
  | _ => .stuck
  else .stuck
def callD (i n : Nat) (F : List PyData → Dw → R PyData) (a : EA) : EX := fun ρ D => match ρ[i]? with
  | some (some .w) => (a ρ D).bind fun ds D1 => if ds.length = n then match F ds D1 with
    | .ok r D2 => .ok r D2
    | _ => .stuck
    else .stuck
  | _ => .stuck
end Ev
section
variable {ι : Type} {X : ι → Cx} {C : Ct} {E : XK} {S : List Addr} {ρ : Env} {D : Dw} {σ : St} {H : Hp}
variable {e : Expr} {es : List Expr} {aa : EA} {F : List PyData → Dw → R PyData} {n : Nat}
theorem tabs_ch {C : Ct} : ∀ a ∈ C.G.tabs, a ∈ C.ch := fun a m => List.mem_append_left _ m
/-- what a callee hands back, for the caller -/
theorem back_ok {C' : Ct} {H' : Hp} {D' : Dw} {v : V} {r : PyData} (F1 : Fm C S ρ D σ H) (hU : C'.U = S) (hc : ∀ a ∈ C'.ch, a ∈ C.ch) (hH : C'.H0 = H) (k : Kp C.ch H H') (F2 : Fm C S ρ D' σ H') (h : Rv C' false H' v r) : Dt S H' v r :=
  Dt.sub (S := C'.ch ++ C'.U) (fun b m => by rw [hU]; exact List.mem_append_right _ m) h
theorem back_fr {C' : Ct} {H' : Hp} {D' : Dw} {v : V} {r : PyData} (F1 : Fm C S ρ D σ H) (hU : C'.U = S) (hH : C'.H0 = H) (k : Kp C.ch H H') (F2 : Fm C S ρ D' σ H') (h : Rv C' true H' v r) : Fresh C S ρ D' σ H H' v r := by
  obtain ⟨p, rfl, n, nch, nU, hc⟩ := h
  rw [hH] at n
  rw [hU] at nU hc
  have kS : Kp S H H' := k.mono fun b m => F1.base b (.inl m)
  have F3 : Fm C (p :: S) ρ D' σ H' := by
    refine ⟨F2.len, fun i t e => ?_, F2.uniq, fun a m => List.mem_cons_of_mem _ (F2.base a m), fun a m => ?_, F2.kp, F2.tb, F2.dr, F2.drc⟩
    · obtain ⟨v, s1, h1⟩ := F1.slot i t e
      obtain ⟨v2, s2, h2⟩ := F2.slot i t e
      refine ⟨v, s1, h1.mk kS (fun b m => (List.mem_cons.mp m).elim (fun z => .inr (z ▸ n)) .inl) fun o a ea m => ⟨List.mem_cons_of_mem _ m, fun ob eb => ?_⟩⟩
      have nc : a ∉ C.ch := by
        cases t with
        | l xs => obtain ⟨a', _, e1, _, _, _, q, _⟩ := h1; rw [ea] at e1; cases e1; exact q
        | m xs => obtain ⟨a', _, e1, _, _, _, q, _⟩ := h1; rw [ea] at e1; cases e1; exact q
        | mt xs => obtain ⟨a', _, e1, _, _, _, q, _⟩ := h1; rw [ea] at e1; cases e1; exact q
        | _ => cases o
      exact k a ob eb (.inr nc)
    · rcases List.mem_cons.mp m with rfl | m
      · rcases hc with ⟨_, _, _, e, _⟩ | ⟨_, _, _, e, _⟩ | ⟨_, _, _, e, _⟩ <;> exact isSome e
      · exact F2.dom a m
  have sub : ∀ b ∈ p :: S, b ∈ p :: (C'.ch ++ S) := fun b m => (List.mem_cons.mp m).elim (fun z => z ▸ List.mem_cons_self) fun z => List.mem_cons_of_mem _ (List.mem_append_right _ z)
  refine ⟨p, rfl, n, F3, ?_⟩
  rcases hc with ⟨vs, xs, h1, h2, h3⟩ | ⟨vs, xs, h1, h2, h3⟩ | ⟨vs, xs, h1, h2, h3⟩
  · exact .inl ⟨vs, xs, h1, h2, h3.sub sub⟩
  · exact .inr (.inl ⟨vs, xs, h1, h2, h3.mk .refl fun b m => .inl (sub b m)⟩)
  · exact .inr (.inr ⟨vs, xs, h1, h2, h3.mk .refl fun b m => .inl (sub b m)⟩)
theorem call0_pre (F1 : Fm C S ρ D σ H) : (∀ a, a ∈ (Ct.mk C.G none S H).ch ∨ a ∈ S → H a ≠ none) ∧ (∀ b ∈ (Ct.mk C.G none S H).ch ++ S, b ∈ S) ∧ ∀ H' D', EndOk (Ct.mk C.G none S H) D' H' → Kp C.ch H H' ∧ Fm C S ρ D σ H' := by
  have hm : ∀ a ∈ (Ct.mk C.G none S H).ch, a ∈ C.G.tabs := fun a m => by
    rcases List.mem_append.mp m with z | z
    · exact z
    · exact absurd z List.not_mem_nil
  refine ⟨fun a m => F1.dom a (m.elim (fun z => F1.base a (.inl (tabs_ch a (hm a z)))) id), fun b m => (List.mem_append.mp m).elim (fun z => F1.base b (.inl (tabs_ch b (hm b z)))) id, fun H' D' e => ?_⟩
  have k : Kp C.G.tabs H H' := e.kp.mono hm
  exact ⟨k.mono tabs_ch, F1.after (k.mono tabs_ch) e.tb (F1.drT k)⟩
theorem rd_call0 {t : TA} {P : V → Hp → PyData → Prop} (q : ∀ S ρ D σ H, Fm C S ρ D σ H → PostA C E S ρ σ H (aa ρ D) (fun Q => t σ H Q)) : RdE C E (tCall (spF C.G false false n F) [] E0 t) (Ev.call0 n F aa) := by
  intro S ρ D σ H F0
  show PostE C E S ρ σ H _ _ (fun Q => t σ H fun vs H1 => spF C.G false false n F (vs ++ []) H1 Q E0)
  refine PostA.bindE (q S ρ D σ H F0) fun ds D1 vs H1 k1 F1 h1 => ?_
  split
  · rename_i hl
    cases hF : F ds D1 with
    | stuck => trivial
    | err c fs D2 => trivial
    | ok r D2 =>
      intro Q hq
      obtain ⟨p1, p2, p3⟩ := call0_pre F1
      refine ⟨S, none, ds, D1, vs, rfl, by rw [List.append_nil], hl, p1, F1.tb, trivial, h1.sub p2, ?_⟩
      rw [hF]
      intro v H' e rv
      obtain ⟨k, F2⟩ := p3 H' D2 e
      exact hq v H' ⟨k, k.mono fun b m => F1.base b (.inl m)⟩ F2 (back_ok (C' := Ct.mk C.G none S H1) F1 rfl (fun a m => tabs_ch a ((List.mem_append.mp m).elim id fun z => absurd z List.not_mem_nil)) rfl k F2 rv)
  · trivial
theorem rf_call0 {t : TA} (q : ∀ S ρ D σ H, Fm C S ρ D σ H → PostA C E S ρ σ H (aa ρ D) (fun Q => t σ H Q)) : ∀ S ρ D σ H, Fm C S ρ D σ H → PostF C E S ρ σ H (Ev.call0 n F aa ρ D) (fun Q => tCall (spF C.G false true n F) [] E0 t σ H Q) := by
  intro S ρ D σ H F0
  show PostF C E S ρ σ H _ (fun Q => t σ H fun vs H1 => spF C.G false true n F (vs ++ []) H1 Q E0)
  refine PostA.bindF F0 (q S ρ D σ H F0) fun ds D1 vs H1 k1 F1 h1 => ?_
  split
  · rename_i hl
    cases hF : F ds D1 with
    | stuck => trivial
    | err c fs D2 => trivial
    | ok r D2 =>
      intro Q hq
      obtain ⟨p1, p2, p3⟩ := call0_pre F1
      refine ⟨S, none, ds, D1, vs, rfl, by rw [List.append_nil], hl, p1, F1.tb, trivial, h1.sub p2, ?_⟩
      rw [hF]
      intro v H' e rv
      obtain ⟨k, F2⟩ := p3 H' D2 e
      exact hq v H' ⟨k, k.mono fun b m => F1.base b (.inl m)⟩ F2 (back_fr (C' := Ct.mk C.G none S H1) F1 rfl rfl k F2 rv)
  · trivial
theorem callD_pre {d w c : Addr} (F1 : Fm C S ρ D σ H) (hd : C.dr = some (d, w, c)) : (∀ a, a ∈ (Ct.mk C.G C.dr S H).ch ∨ a ∈ S → H a ≠ none) ∧ (∀ b ∈ (Ct.mk C.G C.dr S H).ch ++ S, b ∈ S) ∧ ∀ H' D', EndOk (Ct.mk C.G C.dr S H) D' H' → Kp C.ch H H' ∧ Fm C S ρ D' σ H' :=
  ⟨fun a m => F1.dom a (m.elim (fun z => F1.base a (.inl z)) id), fun b m => (List.mem_append.mp m).elim (fun z => F1.base b (.inl z)) id, fun H' D' e => ⟨e.kp, F1.after e.kp e.tb e.dr⟩⟩
/-- f(draw, ..): the draw in slot i -/
def tCallW (i : Nat) (sp : Sp) (t : TA) : TE := fun σ H Q => ∃ v, σ[i]? = some (some v) ∧ t σ H fun vs H1 => sp (v :: vs ++ []) H1 Q E0
theorem rd_callD {i : Nat} {t : TA} (q : ∀ S ρ D σ H, Fm C S ρ D σ H → PostA C E S ρ σ H (aa ρ D) (fun Q => t σ H Q)) : RdE C E (tCallW i (spF C.G true false n F) t) (Ev.callD i n F aa) := by
  intro S ρ D σ H F0
  unfold Ev.callD
  split
  · rename_i hw
    obtain ⟨v, sv, d, w, c, hd, rfl⟩ := F0.slot i _ hw
    have A : PostE C E S ρ σ H (fun v H' d => Dt S H' v d) ((aa ρ D).bind fun ds D1 => if ds.length = n then match F ds D1 with | .ok r D2 => .ok r D2 | _ => .stuck else .stuck) (fun Q => t σ H fun vs H1 => spF C.G true false n F (V.ref d :: vs ++ []) H1 Q E0) := by
      refine PostA.bindE (q S ρ D σ H F0) fun ds D1 vs H1 k1 F1 h1 => ?_
      split
      · rename_i hl
        cases hF : F ds D1 with
        | stuck => trivial
        | err c fs D2 => trivial
        | ok r D2 =>
          intro Q hq
          obtain ⟨p1, p2, p3⟩ := callD_pre F1 hd
          refine ⟨S, C.dr, ds, D1, vs, by rw [hd]; rfl, by rw [hd, List.append_nil], hl, p1, F1.tb, F1.dr, h1.sub p2, ?_⟩
          rw [hF]
          intro v H' e rv
          obtain ⟨k, F2⟩ := p3 H' D2 e
          exact hq v H' ⟨k, k.mono fun b m => F1.base b (.inl m)⟩ F2 (back_ok (C' := Ct.mk C.G C.dr S H1) F1 rfl (fun a m => m) rfl k F2 rv)
      · trivial
    unfold PostE at A ⊢
    split <;> rename_i hz <;> rw [hz] at A
    · trivial
    · exact fun Q hq => ⟨_, sv, A Q hq⟩
    · exact fun z Q => ⟨_, sv, A z Q⟩
  · trivial
theorem rf_callD {i : Nat} {t : TA} (q : ∀ S ρ D σ H, Fm C S ρ D σ H → PostA C E S ρ σ H (aa ρ D) (fun Q => t σ H Q)) : ∀ S ρ D σ H, Fm C S ρ D σ H → PostF C E S ρ σ H (Ev.callD i n F aa ρ D) (fun Q => tCallW i (spF C.G true true n F) t σ H Q) := by
  intro S ρ D σ H F0
  unfold Ev.callD
  split
  · rename_i hw
    obtain ⟨v, sv, d, w, c, hd, rfl⟩ := F0.slot i _ hw
    have A : PostF C E S ρ σ H ((aa ρ D).bind fun ds D1 => if ds.length = n then match F ds D1 with | .ok r D2 => .ok r D2 | _ => .stuck else .stuck) (fun Q => t σ H fun vs H1 => spF C.G true true n F (V.ref d :: vs ++ []) H1 Q E0) := by
      refine PostA.bindF F0 (q S ρ D σ H F0) fun ds D1 vs H1 k1 F1 h1 => ?_
      split
      · rename_i hl
        cases hF : F ds D1 with
        | stuck => trivial
        | err c fs D2 => trivial
        | ok r D2 =>
          intro Q hq
          obtain ⟨p1, p2, p3⟩ := callD_pre F1 hd
          refine ⟨S, C.dr, ds, D1, vs, by rw [hd]; rfl, by rw [hd, List.append_nil], hl, p1, F1.tb, F1.dr, h1.sub p2, ?_⟩
          rw [hF]
          intro v H' e rv
          obtain ⟨k, F2⟩ := p3 H' D2 e
          exact hq v H' ⟨k, k.mono fun b m => F1.base b (.inl m)⟩ F2 (back_fr (C' := Ct.mk C.G C.dr S H1) F1 rfl rfl k F2 rv)
      · trivial
    unfold PostF at A ⊢
    split <;> rename_i hz <;> rw [hz] at A
    · trivial
    · exact fun Q hq => ⟨_, sv, A Q hq⟩
    · exact fun z Q => ⟨_, sv, A z Q⟩
  · trivial
theorem ve_call0 (h : VA X C E es aa) (hp : ∀ i_ ta, PA (X i_) es ta → PE (X i_) e (tCall (spF C.G false false n F) [] E0 ta)) : VE X C E e (Ev.call0 n F aa) := let ⟨t, p, q⟩ := h.ex; ⟨_, fun i => hp i t (p i), rd_call0 (P := fun _ _ _ => True) q⟩
theorem vf_call0 (h : VA X C E es aa) (hp : ∀ i_ ta, PA (X i_) es ta → PE (X i_) e (tCall (spF C.G false true n F) [] E0 ta)) : VF X C E e (Ev.call0 n F aa) := let ⟨t, p, q⟩ := h.ex; ⟨_, fun i => hp i t (p i), rf_call0 q⟩
theorem ve_callD {i : Nat} (h : VA X C E es aa) (hp : ∀ i_ ta, PA (X i_) es ta → PE (X i_) e (tCall (spF C.G true false n F) [] E0 (tCons (tVar i) ta))) : VE X C E e (Ev.callD i n F aa) := let ⟨t, p, q⟩ := h.ex; ⟨_, fun i => hp i t (p i), rd_callD q⟩
theorem vf_callD {i : Nat} (h : VA X C E es aa) (hp : ∀ i_ ta, PA (X i_) es ta → PE (X i_) e (tCall (spF C.G true true n F) [] E0 (tCons (tVar i) ta))) : VF X C E e (Ev.callD i n F aa) := let ⟨t, p, q⟩ := h.ex; ⟨_, fun i => hp i t (p i), rf_callD q⟩
end
end Fx
set_option Elab.async false
set_option linter.all false
set_option maxRecDepth 100000
set_option maxHeartbeats 2000000
namespace Fx
open PySem PySem.Spec PyProof.Rows L2 Kb
variable [Nm]
section
variable {ι : Type} {X : ι → Cx} {C : Ct} {E : XK} {fr : Bool} {S : List Addr} {ρ : Env} {D : Dw} {σ : St} {H : Hp}
variable {a b c e : Expr} {st : Stmt} {fa fb fc : EX} {f : ST}
/-! ### from now on data -/
theorem Fm.frz {i : Nat} {t : T} {d : PyData} (F : Fm C S ρ D σ H) (e : ρ[i]? = some (some t)) (hv : view t = some d) : ∃ S', (∀ b ∈ S', b ∈ S) ∧ Fm C S' (ρ.set i (some (.d d))) D σ H := by
  obtain ⟨v, s, h⟩ := F.slot i t e
  by_cases ho : own t = true
  · obtain ⟨p, rfl, mp⟩ := F.ownS e ho s
    have info : p ∉ C.ch ∧ p ∉ C.U := by
      cases t with
      | l xs => obtain ⟨a, vs, ea, _, _, r⟩ := h; cases ea; exact ⟨r.2.1, r.2.2.1⟩
      | m xs => obtain ⟨a, vs, ea, _, _, r⟩ := h; cases ea; exact ⟨r.2.1, r.2.2.1⟩
      | mt xs => obtain ⟨a, vs, ea, _, _, r⟩ := h; cases ea; exact ⟨r.2.1, r.2.2.1⟩
      | _ => cases ho
    have sub : ∀ b ∈ S.filter (fun b => decide (b ≠ p)), b ∈ S := fun b m => (List.mem_filter.mp m).1
    have ne : ∀ {b : Addr}, b ∈ S → b ≠ p → b ∈ S.filter (fun b => decide (b ≠ p)) := fun m n => List.mem_filter.mpr ⟨m, decide_eq_true n⟩
    have np : p ∉ S.filter (fun b => decide (b ≠ p)) := fun m => of_decide_eq_true (List.mem_filter.mp m).2 rfl
    refine ⟨S.filter (fun b => decide (b ≠ p)), sub, ?_⟩
    have hi : i < ρ.length := (List.getElem?_eq_some_iff.mp e).1
    have hd : Dt (S.filter (fun b => decide (b ≠ p))) H (.ref p) d := by
      cases t with
      | l xs => cases hv; obtain ⟨a, vs, ea, eb, hd, _⟩ := h; cases ea; exact .lst eb np (hd.sub sub)
      | m xs => cases hv; obtain ⟨a, vs, ea, eb, hd, _⟩ := h; cases ea; exact .dct eb np (hd.mk .refl fun b m => .inl (sub b m))
      | mt xs => cases hv; obtain ⟨a, vs, ea, eb, hd, _⟩ := h; cases ea; exact .dtt eb np (hd.mk .refl fun b m => .inl (sub b m))
      | _ => cases ho
    refine ⟨by rw [List.length_set, F.len], fun j u ej => ?_, fun j k u w z hjk e1 e2 o1 o2 s1 s2 => ?_, fun b m => ne (F.base b m) (fun z => m.elim (fun q => info.1 (z ▸ q)) fun q => info.2 (z ▸ q)), fun b m => F.dom b (sub b m), F.kp, F.tb, F.dr, F.drc⟩
    · by_cases hj : i = j
      · subst hj
        rw [List.getElem?_set_self hi] at ej
        cases ej
        exact ⟨_, s, hd⟩
      · rw [List.getElem?_set_ne hj] at ej
        obtain ⟨v, s1, h1⟩ := F.slot j u ej
        refine ⟨v, s1, h1.mk .refl (fun b m => .inl (sub b m)) fun ou a ea m => ⟨ne m fun z => ?_, fun _ q => q⟩⟩
        subst z
        rw [ea] at s1
        exact F.uniq i j t u _ hj e ej ho ou s s1
    · by_cases hj : i = j
      · subst hj
        rw [List.getElem?_set_self hi] at e1
        cases e1
        cases o1
      · by_cases hk : i = k
        · subst hk
          rw [List.getElem?_set_self hi] at e2
          cases e2
          cases o2
        · rw [List.getElem?_set_ne hj] at e1
          rw [List.getElem?_set_ne hk] at e2
          exact F.uniq j k u w z hjk e1 e2 o1 o2 s1 s2
  · cases t with
    | d x =>
      cases hv
      refine ⟨S, fun _ m => m, ?_⟩
      have : ρ.set i (some (.d d)) = ρ := by
        apply List.ext_getElem?
        intro j
        by_cases hj : i = j
        · subst hj
          rw [List.getElem?_set_self (List.getElem?_eq_some_iff.mp e).1, e]
        · rw [List.getElem?_set_ne hj]
      rw [this]
      exact F
    | l xs => exact absurd rfl ho
    | m xs => exact absurd rfl ho
    | mt xs => exact absurd rfl ho
    | _ => cases hv
theorem rd_frz {i : Nat} {t : TS} (q : RdS C E fr t f) : RdS C E fr t (Sv.frz i f) := by
  intro S ρ D σ H Dn F
  unfold Sv.frz
  split
  · rename_i u e
    split
    · rename_i d hv
      obtain ⟨S', hs, F'⟩ := F.frz e hv
      have A := q S' _ D σ H Dn F'
      have ext : ∀ {S2 H2}, Ext S' H S2 H2 → Ext S H S2 H2 := fun x => ⟨x.kp.mono hs, fun b m => (x.sub b m).imp (hs b) id⟩
      unfold PostS at A ⊢
      split <;> rename_i hz <;> rw [hz] at A
      · trivial
      · exact fun k => A fun S2 σ2 H2 x F2 => k S2 σ2 H2 (ext x) F2
      · exact fun k => A fun S2 σ2 H2 x F2 => k S2 σ2 H2 (ext x) F2
      · exact fun k => A fun S2 σ2 H2 x F2 => k S2 σ2 H2 (ext x) F2
      · exact A
      · exact A
    · exact q S ρ D σ H Dn F
  · exact q S ρ D σ H Dn F
theorem vs_frz {i : Nat} (h : VS X C E fr st f) : VS X C E fr st (Sv.frz i f) := let ⟨_, p, q⟩ := h.ex; ⟨_, p, rd_frz q⟩
/-! ### built-ins -/
def gList : PyData → Option PyData
  | .list xs => some (.list xs)
  | .tuple xs => some (.list xs)
  | _ => none
def gTuple : PyData → Option PyData
  | .list xs => some (.tuple xs)
  | .tuple xs => some (.tuple xs)
  | _ => none
theorem d_list : DFr1 C (fun x H Q => (fun xs H Q => ∃ p ys, xs = [V.ref p] ∧ (SqL C.G.K H p ys ∨ SqT C.G.K H p ys) ∧ ∀ l, H l = none → Q (.ref l) (upd H l (.lst ys))) [x] H Q) gList := by
  intro S H x d res hx hS hr Q hq
  unfold gList at hr
  split at hr
  · cases hr
    obtain ⟨a, vs, rfl, ea, hd⟩ := hx.lst_inv
    exact ⟨a, vs, rfl, .inl (sqL ea), fun p n => hq p vs _ n rfl hd⟩
  · cases hr
    obtain ⟨a, vs, rfl, ea, hd⟩ := hx.tup_inv
    exact ⟨a, vs, rfl, .inr (sqT ea), fun p n => hq p vs _ n rfl hd⟩
  · cases hr
theorem d_tuple : DCl1 C (fun xs H Q => ∃ p ys, xs = [.ref p] ∧ ((SqL C.G.K H p ys ∧ ∀ l, H l = none → Q (.ref l) (upd H l (.tup ys))) ∨ (SqT C.G.K H p ys ∧ Q (.ref p) H))) gTuple := by
  intro S H x d res hx hS hr Q hq
  unfold gTuple at hr
  split at hr
  · cases hr
    obtain ⟨a, vs, rfl, ea, hd⟩ := hx.lst_inv
    exact ⟨a, vs, rfl, .inl ⟨sqL ea, fun p n => hq _ _ (Kp.new n) (.tup upd_same (hd.kp (Kp.new n)))⟩⟩
  · cases hr
    cases hx with
    | dt hx =>
      obtain ⟨a, vs, rfl, ea, hd⟩ := hx.seqT
      exact ⟨a, vs, rfl, .inr ⟨sqT ea, hq _ _ .refl (.tup ea hd)⟩⟩
  · cases hr
/-- ints put in order -/
def insI (x : Int) : List Int → List Int
  | [] => [x]
  | y :: r => if x ≤ y then x :: y :: r else y :: insI x r
def sortI : List Int → List Int
  | [] => []
  | x :: r => insI x (sortI r)
theorem insI_perm (x : Int) : ∀ l : List Int, (insI x l).Perm (x :: l)
  | [] => .refl _
  | y :: r => by
    unfold insI
    split
    · exact .refl _
    · exact ((insI_perm x r).cons y).trans (.swap x y r)
theorem sortI_perm : ∀ l : List Int, (sortI l).Perm l
  | [] => .refl _
  | x :: r => (insI_perm x _).trans ((sortI_perm r).cons x)
theorem insI_sorted (x : Int) : ∀ {l : List Int}, l.Pairwise (· ≤ ·) → (insI x l).Pairwise (· ≤ ·)
  | [], _ => by unfold insI; simp
  | y :: r, h => by
    unfold insI
    obtain ⟨h1, h2⟩ := List.pairwise_cons.mp h
    split
    · rename_i hxy
      exact List.pairwise_cons.mpr ⟨fun z m => (List.mem_cons.mp m).elim (fun e => e ▸ hxy) fun m => Int.le_trans hxy (h1 z m), h⟩
    · rename_i hxy
      refine List.pairwise_cons.mpr ⟨fun z m => ?_, insI_sorted x h2⟩
      rcases List.mem_cons.mp ((insI_perm x r).mem_iff.mp m) with e | m
      · rw [e]; omega
      · exact h1 z m
theorem sortI_sorted : ∀ l : List Int, (sortI l).Pairwise (· ≤ ·)
  | [] => .nil
  | x :: r => insI_sorted x (sortI_sorted r)
theorem sorted_unique : ∀ {l m : List Int}, l.Perm m → l.Pairwise (· ≤ ·) → m.Pairwise (· ≤ ·) → l = m
  | [], m, p, _, _ => (List.Perm.nil_eq p)
  | x :: l, [], p, _, _ => absurd p.length_eq (by simp)
  | x :: l, y :: m, p, h1, h2 => by
    obtain ⟨a1, a2⟩ := List.pairwise_cons.mp h1
    obtain ⟨b1, b2⟩ := List.pairwise_cons.mp h2
    have e : x = y := by
      have hx : x ∈ y :: m := p.mem_iff.mp List.mem_cons_self
      have hy : y ∈ x :: l := p.mem_iff.mpr List.mem_cons_self
      have h3 : y ≤ x := (List.mem_cons.mp hx).elim (fun e => by omega) (b1 x)
      have h4 : x ≤ y := (List.mem_cons.mp hy).elim (fun e => by omega) (a1 y)
      omega
    subst e
    rw [sorted_unique (p.cons_inv) a2 b2]
def gSorted : PyData → Option PyData
  | .list xs => (intsOf xs).map fun ns => .list ((sortI ns).map .int)
  | _ => none
theorem d_sorted : DFr1 C (fun x H Q => rSortedI C.G.K [x] H Q) gSorted := by
  intro S H x d res hx hS hr Q hq
  unfold gSorted at hr
  split at hr
  · rename_i xs
    cases q : intsOf xs with
    | none => rw [q] at hr; cases hr
    | some ns =>
      rw [q] at hr
      cases hr
      rw [intsOf_eq q] at hx
      obtain ⟨a, vs, rfl, ea, hd⟩ := hx.lst_inv
      rw [hd.int_inv] at ea
      refine ⟨a, ns, rfl, sqL ea, fun ns' p hp hs n => ?_⟩
      rw [sorted_unique (hp.trans (sortI_perm ns).symm) hs (sortI_sorted ns)]
      exact hq p _ _ n rfl (DtL.ints _)
  · cases hr
def gSum : PyData → Option PyData
  | .list xs => (intsOf xs).map fun ns => .int ns.sum
  | _ => none
theorem d_sum : DCl1 C (rSum C.G.K) gSum := by
  intro S H x d res hx hS hr Q hq
  unfold gSum at hr
  split at hr
  · rename_i xs
    cases q : intsOf xs with
    | none => rw [q] at hr; cases hr
    | some ns =>
      rw [q] at hr
      cases hr
      rw [intsOf_eq q] at hx
      obtain ⟨a, vs, rfl, ea, hd⟩ := hx.lst_inv
      rw [hd.int_inv] at ea
      exact ⟨a, ns, rfl, sqL ea, hq _ _ .refl (.int _)⟩
  · cases hr
/-- the least, the greatest of some ints -/
def leastI : List Int → Option Int
  | [] => none
  | x :: r => match leastI r with
    | some y => some (if y < x then y else x)
    | none => some x
def greatI : List Int → Option Int
  | [] => none
  | x :: r => match greatI r with
    | some y => some (if x < y then y else x)
    | none => some x
theorem leastI_ok : ∀ {l : List Int} {m : Int}, leastI l = some m → m ∈ l ∧ ∀ y ∈ l, m ≤ y
  | x :: r, m, h => by
    unfold leastI at h
    cases q : leastI r with
    | none =>
      rw [q] at h
      cases h
      have : r = [] := by cases r with | nil => rfl | cons y s => unfold leastI at q; split at q <;> cases q
      subst this
      simp
    | some z =>
      rw [q] at h
      obtain ⟨h1, h2⟩ := leastI_ok q
      simp only [Option.some.injEq] at h
      subst h
      split
      · exact ⟨List.mem_cons_of_mem _ h1, fun y my => (List.mem_cons.mp my).elim (fun e => by omega) (h2 y)⟩
      · exact ⟨List.mem_cons_self, fun y my => (List.mem_cons.mp my).elim (fun e => by omega) fun my => by have := h2 y my; omega⟩
theorem greatI_ok : ∀ {l : List Int} {m : Int}, greatI l = some m → m ∈ l ∧ ∀ y ∈ l, y ≤ m
  | x :: r, m, h => by
    unfold greatI at h
    cases q : greatI r with
    | none =>
      rw [q] at h
      cases h
      have : r = [] := by cases r with | nil => rfl | cons y s => unfold greatI at q; split at q <;> cases q
      subst this
      simp
    | some z =>
      rw [q] at h
      obtain ⟨h1, h2⟩ := greatI_ok q
      simp only [Option.some.injEq] at h
      subst h
      split
      · exact ⟨List.mem_cons_of_mem _ h1, fun y my => (List.mem_cons.mp my).elim (fun e => by omega) (h2 y)⟩
      · exact ⟨List.mem_cons_self, fun y my => (List.mem_cons.mp my).elim (fun e => by omega) fun my => by have := h2 y my; omega⟩
def gMin : PyData → Option PyData
  | .list xs => (intsOf xs).bind fun ns => (leastI ns).map .int
  | _ => none
def gMax : PyData → Option PyData
  | .list xs => (intsOf xs).bind fun ns => (greatI ns).map .int
  | _ => none
theorem d_min : DCl1 C (rMin C.G.K) gMin := by
  intro S H x d res hx hS hr Q hq
  unfold gMin at hr
  split at hr
  · rename_i xs
    cases q : intsOf xs with
    | none => rw [q] at hr; cases hr
    | some ns =>
      rw [q] at hr
      have hr : (leastI ns).map PyData.int = some res := hr
      cases q2 : leastI ns with
      | none => rw [q2] at hr; cases hr
      | some m =>
        rw [q2] at hr
        cases hr
        rw [intsOf_eq q] at hx
        obtain ⟨a, vs, rfl, ea, hd⟩ := hx.lst_inv
        rw [hd.int_inv] at ea
        obtain ⟨h1, h2⟩ := leastI_ok q2
        refine ⟨a, ns, rfl, sqL ea, List.length_pos_of_mem h1, fun m' hm hm2 => ?_⟩
        have : m' = m := Int.le_antisymm (hm2 m h1) (h2 m' hm)
        rw [this]
        exact hq _ _ .refl (.int _)
  · cases hr
theorem d_max : DCl1 C (rMax C.G.K) gMax := by
  intro S H x d res hx hS hr Q hq
  unfold gMax at hr
  split at hr
  · rename_i xs
    cases q : intsOf xs with
    | none => rw [q] at hr; cases hr
    | some ns =>
      rw [q] at hr
      have hr : (greatI ns).map PyData.int = some res := hr
      cases q2 : greatI ns with
      | none => rw [q2] at hr; cases hr
      | some m =>
        rw [q2] at hr
        cases hr
        rw [intsOf_eq q] at hx
        obtain ⟨a, vs, rfl, ea, hd⟩ := hx.lst_inv
        rw [hd.int_inv] at ea
        obtain ⟨h1, h2⟩ := greatI_ok q2
        refine ⟨a, ns, rfl, sqL ea, List.length_pos_of_mem h1, fun m' hm hm2 => ?_⟩
        have : m' = m := Int.le_antisymm (h2 m' hm) (hm2 m h1)
        rw [this]
        exact hq _ _ .refl (.int _)
  · cases hr
def gMin2 (i j : Int) : Option PyData := some (.int (if j < i then j else i))
def gMax2 (i j : Int) : Option PyData := some (.int (if j > i then j else i))
theorem d_min2 : DCl2 C (fun xs H Q => ∃ i j, xs = [.int i, .int j] ∧ Q (.int (if j < i then j else i)) H) (gI gMin2) := dI fun i j res H Q e q => ⟨i, j, rfl, q _ fun _ _ => Option.some.inj e ▸ .int _⟩
theorem d_max2 : DCl2 C (fun xs H Q => ∃ i j, xs = [.int i, .int j] ∧ Q (.int (if j > i then j else i)) H) (gI gMax2) := dI fun i j res H Q e q => ⟨i, j, rfl, q _ fun _ _ => Option.some.inj e ▸ .int _⟩
def gAbs : PyData → Option PyData
  | .int i => some (.int (if i < 0 then -i else i))
  | _ => none
theorem d_abs : DCl1 C (fun xs H Q => ∃ i, xs = [.int i] ∧ Q (.int (if i < 0 then -i else i)) H) gAbs := by
  intro S H x d res hx hS hr Q hq
  unfold gAbs at hr
  split at hr
  · cases hr
    rw [hx.int_inv]
    exact ⟨_, rfl, hq _ _ .refl (.int _)⟩
  · cases hr
def gInt : PyData → Option PyData
  | .int i => some (.int i)
  | .bool k => some (.int (if k then 1 else 0))
  | _ => none
theorem d_int : DCl1 C (fun xs H Q => (∃ i, xs = [.int i] ∧ Q (.int i) H) ∨ ∃ k, xs = [.bl k] ∧ Q (.int (if k then 1 else 0)) H) gInt := by
  intro S H x d res hx hS hr Q hq
  unfold gInt at hr
  split at hr
  · cases hr
    rw [hx.int_inv]
    exact .inl ⟨_, rfl, hq _ _ .refl (.int _)⟩
  · cases hr
    rw [hx.bl_inv]
    exact .inr ⟨_, rfl, hq _ _ .refl (.int _)⟩
  · cases hr
/-! ### slices -/
def cutD (xs : List PyData) (lo hi : Option Int) : List PyData := (xs.drop (HT.sIx xs.length 0 lo)).take (HT.sIx xs.length xs.length hi - HT.sIx xs.length 0 lo)
theorem DtL.cut {vs : List V} {xs : List PyData} (h : DtL S H vs xs) (lo hi : Option Int) : DtL S H (cutV vs lo hi) (cutD xs lo hi) := by
  unfold cutV cutD
  rw [h.len]
  exact (h.drop _).take _
def gSl (lo hi : Option Int) : PyData → Option PyData
  | .list xs => some (.list (cutD xs lo hi))
  | .tuple xs => some (.tuple (cutD xs lo hi))
  | .str z => if z.length ≤ sizeLine then some (.str (cutS z lo hi)) else none
  | _ => none
def rSlU (K : PySem.W.Frag) : V → Option Int → Option Int → Hp → VK → Prop := fun x lo hi H Q => rSlL K x lo hi H Q ∨ rSlA K x lo hi H Q ∨ rSlS x lo hi H Q
theorem sl_U {X : Cx} : SlR X (rSlU X.K) := sl_list.or (sl_tupA.or sl_str)
theorem d_sl (lo hi : Option Int) : DOp1 C (fun x H Q => rSlU C.G.K x lo hi H Q) (gSl lo hi) := by
  intro S H x d res hx hS hr Q hq
  unfold gSl at hr
  split at hr
  · cases hr
    obtain ⟨a, vs, rfl, ea, hd⟩ := hx.lst_inv
    exact .inl ⟨a, vs, rfl, sqL ea, fun p n => hq _ _ (Kp.new n) (.lst upd_same (fun m => hS p m n) ((hd.cut lo hi).kp (Kp.new n)))⟩
  · cases hr
    cases hx with
    | dt hx =>
      obtain ⟨a, vs, rfl, ea, hd⟩ := hx.seqT
      refine .inr (.inl ⟨a, vs, rfl, sqT ea, fun z => ?_, fun _ p n => hq _ _ (Kp.new n) (.tup upd_same ((hd.cut lo hi).kp (Kp.new n)))⟩)
      rename_i xs
      have : cutD xs lo hi = xs := by
        unfold cutD
        rw [hd.len] at z
        rw [z.1, z.2, Nat.sub_zero, List.drop_zero, List.take_length]
      rw [this] at hq
      exact hq _ _ .refl (.tup ea hd)
  · split at hr
    · rename_i hz
      cases hr
      rw [hx.str_inv]
      exact .inr (.inr ⟨_, rfl, hz, hq _ _ .refl (.str _)⟩)
    · cases hr
  · cases hr
/-- an end of a slice -/
abbrev EO := Env → Dw → R (Option Int)
structure VO {ι : Type} (X : ι → Cx) (C : Ct) (E : XK) (e : Option Expr) (f : EO) : Prop where
  ex : ∃ t, (∀ i, PO (X i) e t) ∧ ∀ S ρ D σ H, Fm C S ρ D σ H → match f ρ D with
    | .stuck => True
    | .ok o D' => ∀ Q : Option Int → Hp → Prop, (∀ H', Kq C S H H' → Fm C S ρ D' σ H' → Q o H') → t σ H Q
    | .err c fs D' => ErrP C E D' c fs → ∀ Q, t σ H Q
namespace Ev
def noPart : EO := fun _ D => .ok none D
def part (a : EX) : EO := fun ρ D => (a ρ D).bind fun d D1 => match d with
  | .int i => .ok (some i) D1
  | _ => .stuck
def sl (a : EX) (l h : EO) : EX := fun ρ D => (a ρ D).bind fun d D1 => (l ρ D1).bind fun lo D2 => (h ρ D2).bind fun hi D3 => ofO (gSl lo hi d) D3
end Ev
theorem vo_none : VO X C E none Ev.noPart := ⟨_, fun _ => po_none, fun S ρ D σ H F Q hq => hq H .refl F⟩
theorem vo_some (h : VB X C E e fa) : VO X C E (some e) (Ev.part fa) := by
  obtain ⟨t, p, q⟩ := h.ex
  refine ⟨_, fun i => po_some (p i), fun S ρ D σ H F => ?_⟩
  have A := q S ρ D σ H F
  unfold Ev.part
  cases hz : fa ρ D with
  | stuck => trivial
  | err c fs D1 => rw [hz] at A; exact fun e Q => A e _
  | ok d D1 =>
    rw [hz] at A
    cases d with
    | int i => exact fun Q hq => A _ fun v H' k F' h => ⟨i, (h.sn F').int_inv, hq H' k F'⟩
    | _ => trivial
theorem ve_sl {lo hi : Option Expr} {fl fh : EO} (ha : VB X C E a fa) (hl : VO X C E lo fl) (hh : VO X C E hi fh) (hp : ∀ i_ ta tl th, PE (X i_) a ta → PO (X i_) lo tl → PO (X i_) hi th → PE (X i_) e (tSl (rSlU C.G.K) ta tl th)) : VE X C E e (Ev.sl fa fl fh) := by
  obtain ⟨ta, pa, qa⟩ := ha.ex
  obtain ⟨tl, pl, ql⟩ := hl.ex
  obtain ⟨th, ph, qh⟩ := hh.ex
  refine ⟨_, fun i => hp i ta tl th (pa i) (pl i) (ph i), fun S ρ D σ H F => ?_⟩
  show PostE C E S ρ σ H _ _ (fun Q => ta σ H fun x H1 => tl σ H1 fun l H2 => th σ H2 fun u H3 => rSlU C.G.K x l u H3 Q)
  refine PostE.bind (qa S ρ D σ H F) fun d D1 x H1 k1 F1 h1 => ?_
  have A := ql S ρ D1 σ H1 F1
  cases hz : fl ρ D1 with
  | stuck => trivial
  | err c fs D2 => rw [hz] at A; exact fun e Q => A e _
  | ok lo D2 =>
    rw [hz] at A
    simp only [bind_ok]
    cases hz2 : fh ρ D2 with
    | stuck => trivial
    | err c fs D3 => exact fun e Q => A _ fun H2 k2 F2 => by have B := qh S ρ D2 σ H2 F2; rw [hz2] at B; exact B e _
    | ok hi D3 =>
      simp only [bind_ok]
      cases q : gSl lo hi d with
      | none => trivial
      | some res =>
        refine fun Q hq => A _ fun H2 k2 F2 => ?_
        have B := qh S ρ D2 σ H2 F2
        rw [hz2] at B
        exact B _ fun H3 k3 F3 => d_sl lo hi S H3 x d res (((h1.kp k2.s).kp k3.s).sn F3) F3.dom q Q fun v H' k h => hq v H' ((k2.trans k3).trans (.of k)) (F3.grow k) h
end
end Fx
set_option Elab.async false
set_option linter.all false
set_option maxRecDepth 100000
set_option maxHeartbeats 2000000
namespace Fx
open PySem PySem.Spec PyProof.Rows L2 Kb
variable [Nm]
/-! ### in short -/
abbrev GG (K : PySem.W.Frag) (w : World) (mg : Str → Option Value) (Ts : List Addr) (Tq : List (Addr × Str)) (fv : Nat → V) (lm : Lam) : Gt := ⟨K, w, mg, Ts, Tq, fv, lm⟩
structure DefAt (K : PySem.W.Frag) (mg : Str → Option Value) (x : Str) (st : Stmt) (a : Addr) (fd : FuncData) : Prop where
  F : Fun K x x st a fd
  g : mg x = some (.ref a)
section
variable {ι : Type} {X : ι → Cx} {C : Ct} {E : XK} {fr : Bool}
variable {a b c e : Expr} {st : Stmt} {fa fb fc : EX} {f : ST} {pos : Pos}
theorem ve_lt (hc : Xc X C) (hu : ∀ i, (X i).A.units < cLine) (ha : VB X C E a fa) (hb : VB X C E b fb) : VE X C E (.Compare a [.Lt] [b] pos) (Ev.o2 gLt fa fb) := ve_cmp (fun i => by have := op_ltU (hu i); rw [hc.K i] at this; exact this) d_lt ha hb (nomark _)
theorem ve_le (ha : VB X C E a fa) (hb : VB X C E b fb) : VE X C E (.Compare a [.LtE] [b] pos) (Ev.o2 (gB fun i j => decide (i ≤ j)) fa fb) := ve_cmp (fun _ => op_le) d_le ha hb (nomark _)
theorem ve_gt (ha : VB X C E a fa) (hb : VB X C E b fb) : VE X C E (.Compare a [.Gt] [b] pos) (Ev.o2 (gB fun i j => decide (j < i)) fa fb) := ve_cmp (fun _ => op_gt) d_gt ha hb (nomark _)
theorem ve_ge (ha : VB X C E a fa) (hb : VB X C E b fb) : VE X C E (.Compare a [.GtE] [b] pos) (Ev.o2 (gB fun i j => decide (j ≤ i)) fa fb) := ve_cmp (fun _ => op_ge) d_ge ha hb (nomark _)
theorem ve_in (hc : Xc X C) (hu : ∀ i, (X i).A.units + 65 < cLine) (ha : VB X C E a fa) (hb : VB X C E b fb) (hm : behindInMarks .In b = false) : VE X C E (.Compare a [.In] [b] pos) (Ev.o2 gIn fa fb) := ve_cmp (fun i => by have := op_inU (hu i); rw [hc.K i] at this; exact this) d_in ha hb hm
theorem ve_nin (hc : Xc X C) (hu : ∀ i, (X i).A.units + 65 < cLine) (ha : VB X C E a fa) (hb : VB X C E b fb) (hm : behindInMarks .NotIn b = false) : VE X C E (.Compare a [.NotIn] [b] pos) (Ev.o2 gNotIn fa fb) := ve_cmp (fun i => by have := op_notInU (hu i); rw [hc.K i] at this; exact this) d_notIn ha hb hm
theorem ve_isN (ha : VB X C E a fa) (hb : VB X C E b fb) : VE X C E (.Compare a [.Is] [b] pos) (Ev.o2 gIsNone fa fb) := ve_cmp (fun _ => op_isN) d_isN ha hb (nomark _)
theorem ve_notN (ha : VB X C E a fa) (hb : VB X C E b fb) : VE X C E (.Compare a [.IsNot] [b] pos) (Ev.o2 gNotNone fa fb) := ve_cmp (fun _ => op_notN) d_notN ha hb (nomark _)
theorem ve_isB (ha : VB X C E a fa) (hb : VB X C E b fb) : VE X C E (.Compare a [.Is] [b] pos) (Ev.o2 gIsB fa fb) := ve_cmp (fun _ => KbIs.op_isBo) d_isB ha hb (nomark _)
theorem vt_eq (hc : Xc X C) (hu : ∀ i, (X i).A.units + 64 < cLine) (ha : VB X C E a fa) (hb : VB X C E b fb) : VT X C E (.Compare a [.Eq] [b] pos) (Ev.tb (Ev.o2 gEq fa fb)) := vt_cmp (fun i => by have := op_eqD (hu i); rw [hc.K i] at this; exact this) d_eq ha hb (nomark _)
theorem vt_ne (hc : Xc X C) (hu : ∀ i, (X i).A.units + 64 < cLine) (ha : VB X C E a fa) (hb : VB X C E b fb) : VT X C E (.Compare a [.NotEq] [b] pos) (Ev.tb (Ev.o2 gNe fa fb)) := vt_cmp (fun i => by have := op_neD (hu i); rw [hc.K i] at this; exact this) d_ne ha hb (nomark _)
theorem vt_lt (hc : Xc X C) (hu : ∀ i, (X i).A.units < cLine) (ha : VB X C E a fa) (hb : VB X C E b fb) : VT X C E (.Compare a [.Lt] [b] pos) (Ev.tb (Ev.o2 gLt fa fb)) := vt_cmp (fun i => by have := op_ltU (hu i); rw [hc.K i] at this; exact this) d_lt ha hb (nomark _)
theorem vt_le (ha : VB X C E a fa) (hb : VB X C E b fb) : VT X C E (.Compare a [.LtE] [b] pos) (Ev.tb (Ev.o2 (gB fun i j => decide (i ≤ j)) fa fb)) := vt_cmp (fun _ => op_le) d_le ha hb (nomark _)
theorem vt_gt (ha : VB X C E a fa) (hb : VB X C E b fb) : VT X C E (.Compare a [.Gt] [b] pos) (Ev.tb (Ev.o2 (gB fun i j => decide (j < i)) fa fb)) := vt_cmp (fun _ => op_gt) d_gt ha hb (nomark _)
theorem vt_ge (ha : VB X C E a fa) (hb : VB X C E b fb) : VT X C E (.Compare a [.GtE] [b] pos) (Ev.tb (Ev.o2 (gB fun i j => decide (j ≤ i)) fa fb)) := vt_cmp (fun _ => op_ge) d_ge ha hb (nomark _)
theorem vt_in (hc : Xc X C) (hu : ∀ i, (X i).A.units + 65 < cLine) (ha : VB X C E a fa) (hb : VB X C E b fb) (hm : behindInMarks .In b = false) : VT X C E (.Compare a [.In] [b] pos) (Ev.tb (Ev.o2 gIn fa fb)) := vt_cmp (fun i => by have := op_inU (hu i); rw [hc.K i] at this; exact this) d_in ha hb hm
theorem vt_nin (hc : Xc X C) (hu : ∀ i, (X i).A.units + 65 < cLine) (ha : VB X C E a fa) (hb : VB X C E b fb) (hm : behindInMarks .NotIn b = false) : VT X C E (.Compare a [.NotIn] [b] pos) (Ev.tb (Ev.o2 gNotIn fa fb)) := vt_cmp (fun i => by have := op_notInU (hu i); rw [hc.K i] at this; exact this) d_notIn ha hb hm
theorem vt_isN (ha : VB X C E a fa) (hb : VB X C E b fb) : VT X C E (.Compare a [.Is] [b] pos) (Ev.tb (Ev.o2 gIsNone fa fb)) := vt_cmp (fun _ => op_isN) d_isN ha hb (nomark _)
theorem vt_notN (ha : VB X C E a fa) (hb : VB X C E b fb) : VT X C E (.Compare a [.IsNot] [b] pos) (Ev.tb (Ev.o2 gNotNone fa fb)) := vt_cmp (fun _ => op_notN) d_notN ha hb (nomark _)
theorem vt_isB (ha : VB X C E a fa) (hb : VB X C E b fb) : VT X C E (.Compare a [.Is] [b] pos) (Ev.tb (Ev.o2 gIsB fa fb)) := vt_cmp (fun _ => KbIs.op_isBo) d_isB ha hb (nomark _)
/-- a < b < c of whole numbers -/
abbrev cLt : Int → Int → Bool := fun i j => decide (i < j)
abbrev cLe : Int → Int → Bool := fun i j => decide (i ≤ j)
theorem ve_ch {op op' : CmpOp} {p p' : Int → Int → Bool} (ho : ∀ i, OpR (X i) (compareOp op) (rI0 fun i j => .bl (p i j))) (ho' : ∀ i, OpR (X i) (compareOp op') (rI0 fun i j => .bl (p' i j))) (ha : VB X C E a fa) (hb : VB X C E b fb) (hc : VB X C E c fc)
    (hm : lastMarks [op, op'] [b, c] = false) : VE X C E (.Compare a [op, op'] [b, c] pos) (Ev.chain (gB p) (gB p') fa fb fc) := ve_chain ho ho' d_B d_B sc_B ha hb hc fun i _ _ _ pa pb pc => pe_chain (ho i) (ho' i) pa pb pc hm
theorem vt_ch {op op' : CmpOp} {p p' : Int → Int → Bool} (ho : ∀ i, OpR (X i) (compareOp op) (rI0 fun i j => .bl (p i j))) (ho' : ∀ i, OpR (X i) (compareOp op') (rI0 fun i j => .bl (p' i j))) (ha : VB X C E a fa) (hb : VB X C E b fb) (hc : VB X C E c fc)
    (hm : lastMarks [op, op'] [b, c] = false) : VT X C E (.Compare a [op, op'] [b, c] pos) (Ev.tb (Ev.chain (gB p) (gB p') fa fb fc)) := vt_chain ho ho' d_B d_B sc_B ha hb hc fun i _ _ _ pa pb pc => pt_chain (ho i) (ho' i) pa pb pc hm
/-- a new list by a comprehension, on one line: name = [..] -/
theorem vs_lcO {i : Nat} {tg iter elt : Expr} {ifs : List Expr} {scope : Scope} {it : EA} {gg : EG} {ga : EB} {vs ks : List Nat} (hi : VI X C E tg iter it) (hg : VG (blkX X scope) C tg ks gg) (ht : VTs (blkX X scope) C E0 ifs ga) (he : VE (blkX X scope) C E0 elt fa) (hks : ∀ k ∈ ks, k ∈ vs)
    (hp : ∀ i_ w t tt te, PI (X i_) tg iter w → (∀ (s : Shared) (H : Hp) (A : Addr) (cl : List (Str × Addr)) (fp : List Addr), PG ((X i_).blk s H scope (compEnvC scope cl A (X i_).env) fp) tg t) → (∀ (s : Shared) (H : Hp) (A : Addr) (cl : List (Str × Addr)) (fp : List Addr), PTs ((X i_).blk s H scope (compEnvC scope cl A (X i_).env) fp) ifs tt) →
      (∀ (s : Shared) (H : Hp) (A : Addr) (cl : List (Str × Addr)) (fp : List Addr), PE ((X i_).blk s H scope (compEnvC scope cl A (X i_).env) fp) elt te) → PS (X i_) st (tAsg (tLc w t tt te vs) (gName i))) : VS X C E fr st (Sv.setO i (Ev.lc vs it gg ga fa)) := by
  obtain ⟨w, pw, qw⟩ := hi.ex
  obtain ⟨t, pt, qt⟩ := hg.ex
  obtain ⟨tt, ptt, qi⟩ := ht.ex
  obtain ⟨te, pe, qe⟩ := he.ex
  refine ⟨_, fun i => hp i w t tt te (pw i) (fun s H A cl fp => pt (i, s, H, A, cl, fp)) (fun s H A cl fp => ptt (i, s, H, A, cl, fp)) (fun s H A cl fp => pe (i, s, H, A, cl, fp)), fun S ρ D σ H Dn F => ?_⟩
  show PostS C E fr S H Dn _ (tLc w t tt te vs σ H fun x H1 => Dn.nx (σ.set i (some x)) H1)
  refine PostF.bindS (rd_lc hks qw qt qi qe S ρ D σ H F) fun d D1 v H1 k1 F1 h1 => ?_
  cases q : Sv.ownT d with
  | none => trivial
  | some t =>
    obtain ⟨p, n, F2⟩ := h1.setO (i := i) F F1 q
    exact fun k => k _ _ H1 ⟨k1.s, fun b m => (List.mem_cons.mp m).elim (fun z => .inr (z ▸ n)) .inl⟩ F2
theorem vs_lcD {i : Nat} {tg iter elt : Expr} {ifs : List Expr} {scope : Scope} {it : EA} {gg : EG} {ga : EB} {vs ks : List Nat} (hi : VI X C E tg iter it) (hg : VG (blkX X scope) C tg ks gg) (ht : VTs (blkX X scope) C E0 ifs ga) (he : VE (blkX X scope) C E0 elt fa) (hks : ∀ k ∈ ks, k ∈ vs)
    (hp : ∀ i_ w t tt te, PI (X i_) tg iter w → (∀ (s : Shared) (H : Hp) (A : Addr) (cl : List (Str × Addr)) (fp : List Addr), PG ((X i_).blk s H scope (compEnvC scope cl A (X i_).env) fp) tg t) → (∀ (s : Shared) (H : Hp) (A : Addr) (cl : List (Str × Addr)) (fp : List Addr), PTs ((X i_).blk s H scope (compEnvC scope cl A (X i_).env) fp) ifs tt) →
      (∀ (s : Shared) (H : Hp) (A : Addr) (cl : List (Str × Addr)) (fp : List Addr), PE ((X i_).blk s H scope (compEnvC scope cl A (X i_).env) fp) elt te) → PS (X i_) st (tAsg (tLc w t tt te vs) (gName i))) : VS X C E fr st (Sv.set i (Ev.lc vs it gg ga fa)) := by
  obtain ⟨w, pw, qw⟩ := hi.ex
  obtain ⟨t, pt, qt⟩ := hg.ex
  obtain ⟨tt, ptt, qi⟩ := ht.ex
  obtain ⟨te, pe, qe⟩ := he.ex
  refine ⟨_, fun i => hp i w t tt te (pw i) (fun s H A cl fp => pt (i, s, H, A, cl, fp)) (fun s H A cl fp => ptt (i, s, H, A, cl, fp)) (fun s H A cl fp => pe (i, s, H, A, cl, fp)), fun S ρ D σ H Dn F => ?_⟩
  show PostS C E fr S H Dn _ (tLc w t tt te vs σ H fun x H1 => Dn.nx (σ.set i (some x)) H1)
  exact PostF.bindS (rd_lc hks qw qt qi qe S ρ D σ H F) fun d D1 v H1 k1 F1 h1 k => k _ _ H1 (Ext.of k1.s) (F1.setD (h1.dt F))
end
end Fx
set_option Elab.async false
set_option linter.all false
set_option maxRecDepth 100000
set_option maxHeartbeats 2000000
namespace Fx
open PySem PySem.Spec PyProof.Rows L2 Kb
variable [Nm]
/-! ### a, b = x, y -/
namespace Sv
def par (i j : Nat) (a b : EX) : ST := fun ρ D => (a ρ D).bind fun x D1 => (b ρ D1).bind fun y D2 => .ok (.nx, (ρ.set i (some (.d x))).set j (some (.d y))) D2
/-- the first, the second is to be one's own -/
def parO1 (i j : Nat) (a b : EX) : ST := fun ρ D => (a ρ D).bind fun x D1 => (b ρ D1).bind fun y D2 => (ofO (ownT x) D2).bind fun t D3 => .ok (.nx, (ρ.set i (some t)).set j (some (.d y))) D3
def parO2 (i j : Nat) (a b : EX) : ST := fun ρ D => (a ρ D).bind fun x D1 => (b ρ D1).bind fun y D2 => (ofO (ownT y) D2).bind fun t D3 => .ok (.nx, (ρ.set i (some (.d x))).set j (some t)) D3
end Sv
section
variable {ι : Type} {X : ι → Cx} {C : Ct} {E : XK} {fr : Bool} {S : List Addr} {ρ : Env} {D : Dw} {σ : St} {H : Hp} {Dn : Ends}
variable {a b c e : Expr} {st : Stmt} {es : List Expr} {pos : Pos} {fa fb fc : EX} {ga gb : EB} {aa : EA} {f g : ST}
theorem vs_par {i j : Nat} (hp : ∀ i_ ta tb, PE (X i_) a ta → PE (X i_) b tb → PS (X i_) st (tPar i j (tCons ta (tCons tb tNil)))) (ha : VE X C E a fa) (hb : VE X C E b fb) : VS X C E fr st (Sv.par i j fa fb) := by
  obtain ⟨ta, pa, qa⟩ := ha.ex
  obtain ⟨tb, pb, qb⟩ := hb.ex
  refine ⟨_, (fun i_ => hp i_ ta tb (pa i_) (pb i_)), fun S ρ D σ H Dn F => ?_⟩
  show PostS C E fr S H Dn _ (ta σ H fun x H1 => tb σ H1 fun y H2 => ∃ v w, [x, y] = [v, w] ∧ Dn.nx ((σ.set i (some v)).set j (some w)) H2)
  refine PostE.bindS (qa S ρ D σ H F) fun d D1 x H1 k1 F1 h1 => ?_
  refine PostE.bindS (qb S ρ D1 σ H1 F1) fun d2 D2 y H2 k2 F2 h2 => ?_
  exact fun q => ⟨x, y, rfl, q S _ H2 .refl ((F2.setD (i := i) (h1.kp k2.s)).setD (i := j) h2)⟩
theorem vs_parO2 {i j : Nat} (hij : i ≠ j) (hp : ∀ i_ ta tb, PE (X i_) a ta → PE (X i_) b tb → PS (X i_) st (tPar i j (tCons ta (tCons tb tNil)))) (ha : VE X C E a fa) (hb : VF X C E b fb) : VS X C E fr st (Sv.parO2 i j fa fb) := by
  obtain ⟨ta, pa, qa⟩ := ha.ex
  obtain ⟨tb, pb, qb⟩ := hb.ex
  refine ⟨_, (fun i_ => hp i_ ta tb (pa i_) (pb i_)), fun S ρ D σ H Dn F => ?_⟩
  show PostS C E fr S H Dn _ (ta σ H fun x H1 => tb σ H1 fun y H2 => ∃ v w, [x, y] = [v, w] ∧ Dn.nx ((σ.set i (some v)).set j (some w)) H2)
  refine PostE.bindS (qa S ρ D σ H F) fun d D1 x H1 k1 F1 h1 => ?_
  refine PostF.bindS (qb S ρ D1 σ H1 F1) fun d2 D2 y H2 k2 F2 h2 => ?_
  cases q : Sv.ownT d2 with
  | none => trivial
  | some t =>
    obtain ⟨p, n, F3⟩ := h2.setO (i := j) F1 F2 q
    have h1' : Dt (p :: S) H2 x d := h1.mk k2.s fun b m => (List.mem_cons.mp m).elim (fun z => .inr (z ▸ n)) .inl
    have F4 := F3.setD (i := i) h1'
    rw [List.set_comm _ _ hij.symm, List.set_comm _ _ hij.symm] at F4
    exact fun k => ⟨x, y, rfl, k _ _ H2 ⟨k2.s, fun b m => (List.mem_cons.mp m).elim (fun z => .inr (z ▸ n)) .inl⟩ F4⟩
theorem vs_parO1 {i j : Nat} (hp : ∀ i_ ta tb, PE (X i_) a ta → PE (X i_) b tb → PS (X i_) st (tPar i j (tCons ta (tCons tb tNil)))) (ha : VF X C E a fa) (hb : VE X C E b fb) : VS X C E fr st (Sv.parO1 i j fa fb) := by
  obtain ⟨ta, pa, qa⟩ := ha.ex
  obtain ⟨tb, pb, qb⟩ := hb.ex
  refine ⟨_, (fun i_ => hp i_ ta tb (pa i_) (pb i_)), fun S ρ D σ H Dn F => ?_⟩
  show PostS C E fr S H Dn _ (ta σ H fun x H1 => tb σ H1 fun y H2 => ∃ v w, [x, y] = [v, w] ∧ Dn.nx ((σ.set i (some v)).set j (some w)) H2)
  refine PostF.bindS (qa S ρ D σ H F) fun d D1 x H1 k1 F1 h1 => ?_
  obtain ⟨p, rfl, n, Fp, hc⟩ := h1
  have np : p ∉ S := fun m => F.dom p m n
  have x0 : Ext S H (p :: S) H1 := ⟨k1.s, fun b m => (List.mem_cons.mp m).elim (fun z => .inr (z ▸ n)) .inl⟩
  have ext : PostS C E fr (p :: S) H1 Dn ((fb ρ D1).bind fun y D2 => (ofO (Sv.ownT d) D2).bind fun t D3 => .ok (.nx, (ρ.set i (some t)).set j (some (.d y))) D3) (tb σ H1 fun y H2 => ∃ v w, [V.ref p, y] = [v, w] ∧ Dn.nx ((σ.set i (some v)).set j (some w)) H2) := by
    refine PostE.bindS (qb (p :: S) ρ D1 σ H1 Fp) fun d2 D2 y H2 k2 F2 h2 => ?_
    cases q : Sv.ownT d with
    | none => trivial
    | some t =>
      have nch : p ∉ C.ch := fun m => np (F.base p (.inl m))
      have hf : Fresh C S ρ D2 σ H H2 (.ref p) d := by
        refine ⟨p, rfl, n, F2, ?_⟩
        rcases hc with ⟨vs, xs, h1, h2, h3⟩ | ⟨vs, xs, h1, h2, h3⟩ | ⟨vs, xs, h1, h2, h3⟩
        · exact .inl ⟨vs, xs, h1, k2.c p _ h2 (.inr nch), h3.kp k2.s⟩
        · exact .inr (.inl ⟨vs, xs, h1, k2.c p _ h2 (.inr nch), h3.kp k2.s⟩)
        · exact .inr (.inr ⟨vs, xs, h1, k2.c p _ h2 (.inr nch), h3.kp k2.s⟩)
      have F2' : Fm C S ρ D2 σ H2 := F.shrink F2
      obtain ⟨p', n', F3⟩ := hf.setO (i := i) F F2' q
      have e : p' = p ∨ p' ≠ p := Classical.em _
      obtain ⟨ho, _⟩ := ownT_inv q
      have F3 : Fm C (p :: S) (ρ.set i (some t)) D2 (σ.set i (some (.ref p))) H2 := by
        obtain ⟨q0, e0, n0, Fq, hq⟩ := hf
        cases e0
        refine F2.setO np (fun j u v e1 o1 s1 => F2'.ownS e1 o1 s1) ho ?_
        have h0 := F.ch0 n
        have nU : p ∉ C.U := fun m => np (F.base p (.inr m))
        have mp : p ∈ p :: S := List.mem_cons_self
        rcases hq with ⟨vs, xs, rfl, ea, hd⟩ | ⟨vs, xs, rfl, ea, hd⟩ | ⟨vs, xs, rfl, ea, hd⟩
        · cases q
          exact ⟨p, vs, rfl, ea, hd, mp, nch, nU, h0⟩
        · have : t = .m xs := by
            cases hd with
            | nil => cases q; rfl
            | @cons k v vs d ds h r => cases k <;> cases q <;> rfl
          subst this
          exact ⟨p, vs, rfl, ea, hd, mp, nch, nU, h0⟩
        · cases q
          exact ⟨p, vs, rfl, ea, hd, mp, nch, nU, h0⟩
      exact fun k => ⟨_, y, rfl, k _ _ H2 .refl (F3.setD (i := j) h2)⟩
  revert ext
  generalize ((fb ρ D1).bind fun y D2 => (ofO (Sv.ownT d) D2).bind fun t D3 => .ok (.nx, (ρ.set i (some t)).set j (some (.d y))) D3 : R (Out × Env)) = r
  intro ext
  cases r with
  | stuck => trivial
  | err c fs D2 => exact ext
  | ok pp D2 =>
    obtain ⟨o, ρ2⟩ := pp
    cases o with
    | nx => exact fun k => ext fun S' σ' H' e F' => k S' σ' H' (x0.trans e) F'
    | brk => exact fun k => ext fun S' σ' H' e F' => k S' σ' H' (x0.trans e) F'
    | ct => exact fun k => ext fun S' σ' H' e F' => k S' σ' H' (x0.trans e) F'
    | ret d2 => exact fun k => ext k
/-! ### all, any of a generator expression -/
/-- room for its own names -/
theorem Fm.more (F : Fm C S ρ D σ H) (n : Nat) : Fm C S (ρ ++ List.replicate n none) D (σ ++ List.replicate n none) H where
  len := by simp [F.len]
  slot := fun i t e => by
    have hi : i < ρ.length := by
      apply Classical.byContradiction
      intro z
      rw [List.getElem?_append_right (by omega)] at e
      have := List.eq_of_mem_replicate (List.mem_of_getElem? e)
      cases this
    rw [List.getElem?_append_left hi] at e
    obtain ⟨v, s, h⟩ := F.slot i t e
    exact ⟨v, by rw [List.getElem?_append_left (by rw [F.len]; exact hi)]; exact s, h⟩
  uniq := fun i j t u v hij e1 e2 o1 o2 s1 s2 => by
    have key : ∀ {i : Nat} {t : T}, (ρ ++ List.replicate n none)[i]? = some (some t) → i < ρ.length := fun {i t} e => by
      apply Classical.byContradiction
      intro z
      rw [List.getElem?_append_right (by omega)] at e
      have := List.eq_of_mem_replicate (List.mem_of_getElem? e)
      cases this
    have h1 := key e1
    have h2 := key e2
    rw [List.getElem?_append_left h1] at e1
    rw [List.getElem?_append_left h2] at e2
    rw [List.getElem?_append_left (by rw [F.len]; exact h1)] at s1
    rw [List.getElem?_append_left (by rw [F.len]; exact h2)] at s2
    exact F.uniq i j t u v hij e1 e2 o1 o2 s1 s2
  base := F.base
  dom := F.dom
  kp := F.kp
  tb := F.tb
  dr := F.dr
  drc := F.drc
namespace Ev
def allLoop (stop : Bool) (ρ : Env) (g : EG) (a : EX) : List PyData → Dw → R PyData
  | [], D => .ok (.bool (!stop)) D
  | d :: r, D => match g d ρ with
    | none => .stuck
    | some ρ1 => match a ρ1 D with
      | .ok (.bool b) D1 => if b = stop then .ok (.bool stop) D1 else allLoop stop ρ g a r D1
      | _ => .stuck
/-- all(a for g in it) (stop = false), any(..) (stop = true): n own names, ks those that the target binds -/
def allG (stop : Bool) (n : Nat) (ks : List Nat) (it : EA) (g : EG) (a : EX) : EX := fun ρ D => (it ρ D).bind fun ds D1 => if ds.length < 10000000 ∧ ks.all (fun k => decide (ρ.length ≤ k)) = true then allLoop stop (ρ ++ List.replicate n none) g a ds D1 else .stuck
end Ev
theorem all_noerr {stop : Bool} {gg : EG} {c : Str} {fs : List (PyData × PyData)} {D2 : Dw} : ∀ (ds : List PyData) (D : Dw), Ev.allLoop stop ρ gg fa ds D ≠ .err c fs D2
  | [], D, h => by unfold Ev.allLoop at h; cases h
  | d :: r, D, h => by
    unfold Ev.allLoop at h
    split at h
    · cases h
    · split at h
      · split at h
        · cases h
        · exact all_noerr r _ h
      · cases h
abbrev famG (X : ι → Cx) (scope : Scope) (own : List Str) : ι × Shared × Hp × Addr × Value × List Addr → Cx := fun j => gcx (X j.1) j.2.1 j.2.2.1 scope j.2.2.2.1 j.2.2.2.2.1 builtinsNs own j.2.2.2.2.2
theorem tbOk_after {G : Gt} {P : Addr} (h : TbOk G H) (hq : ∀ p ∈ G.Tq, p.1 ≠ P) {H' : Hp} (t : GxR.Tabbed P H H') (m : P ∈ G.Ts) : TbOk G H' := by
  refine ⟨fun P' m' => ?_, fun p m' => ?_⟩
  · by_cases e : P' = P
    · subst e; exact t.1
    · obtain ⟨ps, e1, e2⟩ := h.g P' m'
      exact ⟨ps, by rw [t.2 _ e]; exact e1, e2⟩
  · obtain ⟨ps, e1, e2, e3⟩ := h.q p m'
    refine ⟨ps, by rw [t.2 _ (hq p m')]; exact e1, e2, fun pos cv z => ?_⟩
    obtain ⟨c, rfl, y⟩ := e3 pos cv z
    refine ⟨c, rfl, ?_⟩
    rw [t.2 c (fun z => ?_)]
    · exact y
    · subst z
      obtain ⟨ps2, e4, _⟩ := h.g c m
      rw [y] at e4
      cases e4
theorem kp_tabbed {P : Addr} {ps} (e : H P = some (.tbl ps)) {H' : Hp} (t : GxR.Tabbed P H H') : Kp [P] H H' := fun b o eb q => by
  by_cases hb : b = P
  · subst hb
    rcases q with q | q
    · rw [e] at eb; cases eb; cases q
    · exact absurd (List.mem_singleton.mpr rfl) q
  · rw [t.2 b hb]; exact eb
theorem rd_all {stop : Bool} {n : Nat} {ks : List Nat} {w : TI} {t : TG} {te : TE} {it : EA} {gg : EG} {P : Addr} (hP : P ∈ C.G.Ts) (hq : ∀ p ∈ C.G.Tq, p.1 ≠ P)
    (qw : ∀ S ρ D σ H, Fm C S ρ D σ H → PostI C E S ρ σ H (it ρ D) (fun Q => w σ H Q))
    (qt : ∀ S ρ D σ H v d ρ', Fm C S ρ D σ H → Dt S H v d → gg d ρ = some ρ' → ∀ Q : St → Hp → Prop, (∀ σ', Fm C S ρ' D σ' H → Off ks ρ ρ' σ σ' → Q σ' H) → t v σ H Q)
    (qe : RdE C E0 te fa) : RdE C E (tQG P w t te n stop) (Ev.allG stop n ks it gg fa) := by
  intro S ρ D σ H F
  have A := qw S ρ D σ H F
  unfold Ev.allG
  cases hr : it ρ D with
  | stuck => trivial
  | err c fs D1 => rw [hr] at A; exact fun e Q => A e _
  | ok ds D1 =>
    rw [hr] at A
    simp only [bind_ok]
    split
    · rename_i hl
      cases hlp : Ev.allLoop stop (ρ ++ List.replicate n none) gg fa ds D1 with
      | stuck => trivial
      | err c fs D2 => exact absurd hlp (all_noerr ds D1)
      | ok y D2 =>
        refine fun Q hQ => A _ fun J H1 k1 F1 hJ => ⟨F1.tb.g P hP, fun H2 tb => ?_⟩
        obtain ⟨ps, ep, _⟩ := F1.tb.g P hP
        have kP : Kp [P] H1 H2 := kp_tabbed ep tb
        have mT : P ∈ C.G.tabs := List.mem_append_left _ hP
        have mC : P ∈ C.ch := List.mem_append_left _ mT
        have kT : Kp C.G.tabs H1 H2 := kP.mono fun b m => (List.mem_singleton.mp m) ▸ mT
        have kC : Kp C.ch H1 H2 := kP.mono fun b m => (List.mem_singleton.mp m) ▸ mC
        have F2 : Fm C S ρ D1 σ H2 := F1.after kC (tbOk_after F1.tb hq tb hP) (F1.drT kT)
        have kS : Kp S H1 H2 := kC.mono fun b m => F1.base b (.inl m)
        have k2 : Kq C S H H2 := k1.trans ⟨kC, kS⟩
        have x2 : Ext S H1 S H2 := Ext.of kS
        refine ⟨fun i m H3 => ∃ D3, m = ds.length - i ∧ i ≤ ds.length ∧ Kq C S H H3 ∧ Ext S H1 S H3 ∧ Fm C S ρ D3 σ H3 ∧ Ev.allLoop stop (ρ ++ List.replicate n none) gg fa (ds.drop i) D3 = .ok y D2, ⟨_, D1, rfl, Nat.zero_le _, k2, x2, F2, hlp⟩, ?_⟩
        rintro i m H3 ⟨D3, rfl, hi, k3, x3, F3, hz⟩
        obtain ⟨hgo, hstop⟩ := hJ i S H3 x3 F3.dom
        by_cases hlt : i < ds.length
        · have hd : ds[i]? = some ds[i] := List.getElem?_eq_getElem hlt
          have hdrop : ds.drop i = ds[i] :: ds.drop (i + 1) := List.drop_eq_getElem_cons hlt
          generalize ds[i] = d at hd hdrop
          obtain ⟨hg1, hy⟩ := hgo d hd
          rw [hdrop] at hz
          unfold Ev.allLoop at hz
          refine .inr ⟨hg1, fun x H4 hx => ?_⟩
          obtain ⟨k4, hx4⟩ := hy x H4 hx
          have F4 := F3.grow k4
          cases hgg : gg d (ρ ++ List.replicate n none) with
          | none => rw [hgg] at hz; cases hz
          | some ρ1 =>
            rw [hgg] at hz
            refine qt S (ρ ++ List.replicate n none) D3 (σ ++ List.replicate n none) H4 x d ρ1 (F4.more n) hx4 hgg _ fun σ2 F5 ho => ⟨?_, ?_⟩
            · refine List.ext_getElem? fun j => ?_
              rw [List.getElem?_take, List.getElem?_take]
              split
              · rename_i hj
                refine ho.at_ j fun m => ?_
                have := List.all_eq_true.mp hl.2 j m
                rw [decide_eq_true_eq] at this
                rw [← F3.len] at this
                omega
              · rfl
            · have T := qe S ρ1 D3 σ2 H4 F5
              cases hf : fa ρ1 D3 with
              | stuck => simp only [hf] at hz; cases hz
              | err c fs D4 => simp only [hf] at hz; cases hz
              | ok r D4 =>
                rw [hf] at T
                simp only [hf] at hz
                cases r with
                | bool bb =>
                  simp only at hz
                  refine T _ fun yv H5 k5 F6 hy5 => ?_
                  have hyv : yv = .bl bb := by cases hy5; rfl
                  subst hyv
                  have back : Fm C S ρ D4 σ H5 := by
                    have := F4.after k5.c F6.tb F6.dr
                    exact this
                  have kk : Kq C S H H5 := (k3.trans (.of k4)).trans k5
                  refine ⟨bb, rfl, fun e => ?_, fun e => ?_⟩
                  · rw [if_pos e] at hz
                    cases hz
                    exact hQ _ H5 kk back (.bl _)
                  · rw [if_neg (by rw [e]; cases stop <;> simp)] at hz
                    exact ⟨_, by omega, D4, rfl, hlt, kk, (x3.trans (Ext.of k4.of)).trans (Ext.of k5.s), back, hz⟩
                | _ => cases hz
        · have : i = ds.length := by omega
          subst this
          rw [List.drop_length] at hz
          unfold Ev.allLoop at hz
          cases hz
          exact .inl ⟨hstop rfl, hQ _ H3 k3 F3 (.bl _)⟩
    · trivial
theorem ve_all {stop : Bool} {n : Nat} {ks : List Nat} {tg iter elt : Expr} {scope : Scope} {own : List Str} {it : EA} {gg : EG} {P : Addr} (hP : P ∈ C.G.Ts) (hq : ∀ p ∈ C.G.Tq, p.1 ≠ P)
    (hi : VI X C E tg iter it) (hg : VG (famG X scope own) C tg ks gg) (he : VE (famG X scope own) C E0 elt fa)
    (hp : ∀ i_ w t te, PI (X i_) tg iter w → (∀ (s : Shared) (H : Hp) (A : Addr) (code : Value) (fp : List Addr), PG (gcx (X i_) s H scope A code builtinsNs own fp) tg t) → (∀ (s : Shared) (H : Hp) (A : Addr) (code : Value) (fp : List Addr), PE (gcx (X i_) s H scope A code builtinsNs own fp) elt te) → PE (X i_) e (tQG P w t te n stop)) : VE X C E e (Ev.allG stop n ks it gg fa) := by
  obtain ⟨w, pw, qw⟩ := hi.ex
  obtain ⟨t, pt, qt⟩ := hg.ex
  obtain ⟨te, pe, qe⟩ := he.ex
  exact ⟨_, fun i => hp i w t te (pw i) (fun s H A c fp => pt (i, s, H, A, c, fp)) (fun s H A c fp => pe (i, s, H, A, c, fp)), rd_all hP hq qw qt qe⟩
end
end Fx
set_option Elab.async false
set_option linter.all false
set_option maxRecDepth 100000
set_option maxHeartbeats 2000000
namespace Fx
open PySem PySem.Spec PyProof.Rows L2 Kb
variable [Nm]
/-! ### errors that leave -/
theorem passE {P : Program} {w : World} {X : Cx} : Passes (L2.CX P w) X E0 := fun _ _ _ _ _ _ _ h => by
  obtain ⟨a, B, H', cls, d, _, _, _, _, _, _, _, z⟩ := h
  exact z.elim
/-- an own class of errors -/
structure EcAt (K : PySem.W.Frag) (mg : Str → Option Value) (x : Str) (C : Addr) : Prop where
  exc : PySem.W.excIn K C He.veBase "ValueError.__new__" = true
  g : mg x = some (.ref C)
  kp : PySem.W.keepIn K (.ref C) = true
  sub : PySem.W.subIn K (.ref C) (.type "BaseException") = some true
  ty : PySem.W.typeIn K (.ref C) = some (.type "type")
namespace Sv
def raise (c : Str) : ST := fun _ D => .err c [] D
end Sv
namespace Ev
/-- a def that may raise -/
def callE (n : Nat) (F : List PyData → Dw → R PyData) (a : EA) : EX := fun ρ D => (a ρ D).bind fun ds D1 => if ds.length = n then match F ds D1 with
  | .ok r _ => .ok r D1
  | .err c fs _ => .err c fs D1
  | .stuck => .stuck
  else .stuck
end Ev
section
variable {P : Program} {w : World} {K : PySem.W.Frag} {mg : Str → Option Value} {base : Heap}
/-- a def that raises, by its body -/
theorem okFx {x qual : Str} {st : Stmt} {fa : Addr} {fd : FuncData} {N ps : List Str} {k n : Nat} {G : Gt} {dr fr : Bool} {f : ST} (F : Fun K x qual st fa fd) (S : FnScope N ps (defScope st)) (hps : ps.length = (if dr = true then 1 else 0) + n) (hN : ps.length ≤ N.length)
    (hb : ∀ (cdv : Value) (A : Around) (outer : List PySem.Env) (s : Shared) (H : Hp) (E : XK) (U : List Addr) (dd : Option (Addr × Addr × Addr)), Room k (A.deeper (envOfC qual (defScope st) s.heap.objs.size fa cdv)) →
      VSs (fun _ : Unit => cxOf (L2.CX P w) P w K mg base N qual (defScope st) fa cdv A outer s H E) (Ct.mk G dd U H) E fr (defBody st) f) :
    FnOk P w K mg base (L2.CX P w) (k + 1) fa fd ps (spF G dr fr n (runF true dr fr N.length f)) := by
  refine F.okX S (fun vs H Q E h => by rw [spF_len h, hps]) (fun cdv A outer s H vs Q E hr h => ?_)
  have hlv := spF_len h
  obtain ⟨U, dd, ds, D, us, h1, hv, h2, h3, h4, h5, h6, h7⟩ := h
  obtain ⟨t, p, q⟩ := (hb cdv A outer s H E U dd hr).ex
  refine ⟨t, p (), ?_⟩
  have F0 := fm_start (N := N) hv (by rw [hlv, ← hps]; exact hN) h3 h4 h5 h6
  have B := q _ _ D _ H { nx := fun _ H' => Q .non H', rt := Q } F0
  unfold runF at h7
  rw [← h1] at h7
  cases hf : f (env0 dd.isSome N.length ds) D with
  | stuck => rw [hf] at h7; exact h7.elim
  | err c fs D' =>
    rw [hf] at h7 B
    dsimp only at h7
    rw [if_pos rfl] at h7
    exact B h7
  | ok pp D' =>
    rw [hf] at h7 B
    obtain ⟨o, ρ'⟩ := pp
    cases o with
    | nx =>
      cases fr with
      | true => exact h7.elim
      | false => exact B fun S' σ' H' x F' => h7 .non H' F'.end (.non : Dt _ _ _ _)
    | ret d => exact B fun v H' e r => h7 v H' e r
    | brk => exact h7.elim
    | ct => exact h7.elim
end
section
variable {ι : Type} {X : ι → Cx} {C : Ct} {E : XK} {fr : Bool} {S : List Addr} {ρ : Env} {D : Dw} {σ : St} {H : Hp}
variable {a b c e : Expr} {es : List Expr} {st : Stmt} {pos : Pos} {aa : EA} {F : List PyData → Dw → R PyData} {n : Nat}
theorem vs_raise {c : Str} (hp : ∀ i, PS (X i) st (fun _ σ H => E (.ref (Nm.adr c)) none H)) : VS X C E fr st (Sv.raise c) :=
  ⟨_, hp, fun S ρ D σ H Dn F z => z H _ _ ⟨F.kp, F.tb, F.dr, rfl, .inl ⟨rfl, rfl⟩⟩⟩
/-- a callee's error, for the caller -/
theorem err_up {D1 D2 : Dw} {c : Str} {fs : List (PyData × PyData)} (F1 : Fm C S ρ D1 σ H) (z : ErrP C E D1 c fs) : ErrP (Ct.mk C.G none S H) E D2 c fs := by
  rintro H' cls dd ⟨k, tb, _, e2, e3⟩
  have hm : ∀ a ∈ (Ct.mk C.G none S H).ch, a ∈ C.G.tabs := fun a m => by
    rcases List.mem_append.mp m with z | z
    · exact z
    · exact absurd z List.not_mem_nil
  have k : Kp (Ct.mk C.G none S H).ch H H' := k
  have kT : Kp C.G.tabs H H' := k.mono hm
  have kC : Kp C.ch H H' := kT.mono tabs_ch
  refine z H' cls dd ⟨F1.kp.trans kC, tb, F1.drT kT, e2, ?_⟩
  rcases e3 with e3 | ⟨d, kv, rfl, n0, ed, hl⟩
  · exact .inl e3
  · exact .inr ⟨d, kv, rfl, F1.ch0 n0, ed, hl.sub fun b m => List.mem_append_right _ (F1.base b (List.mem_append.mp m))⟩
theorem rd_callE {t : TA} (q : ∀ S ρ D σ H, Fm C S ρ D σ H → PostA C E S ρ σ H (aa ρ D) (fun Q => t σ H Q)) : RdE C E (tCall (spF C.G false false n F) [] E t) (Ev.callE n F aa) := by
  intro S ρ D σ H F0
  show PostE C E S ρ σ H _ _ (fun Q => t σ H fun vs H1 => spF C.G false false n F (vs ++ []) H1 Q E)
  refine PostA.bindE (q S ρ D σ H F0) fun ds D1 vs H1 k1 F1 h1 => ?_
  split
  · rename_i hl
    obtain ⟨p1, p2, p3⟩ := call0_pre F1
    cases hF : F ds D1 with
    | stuck => trivial
    | err c fs D2 =>
      intro z Q
      refine ⟨S, none, ds, D1, vs, rfl, by rw [List.append_nil], hl, p1, F1.tb, trivial, h1.sub p2, ?_⟩
      rw [hF]
      exact err_up F1 z
    | ok r D2 =>
      intro Q hq
      refine ⟨S, none, ds, D1, vs, rfl, by rw [List.append_nil], hl, p1, F1.tb, trivial, h1.sub p2, ?_⟩
      rw [hF]
      intro v H' e rv
      obtain ⟨k, F2⟩ := p3 H' D2 e
      exact hq v H' ⟨k, k.mono fun b m => F1.base b (.inl m)⟩ F2 (back_ok (C' := Ct.mk C.G none S H1) F1 rfl (fun a m => tabs_ch a ((List.mem_append.mp m).elim id fun z => absurd z List.not_mem_nil)) rfl k F2 rv)
  · trivial
theorem rf_callE {t : TA} (q : ∀ S ρ D σ H, Fm C S ρ D σ H → PostA C E S ρ σ H (aa ρ D) (fun Q => t σ H Q)) : ∀ S ρ D σ H, Fm C S ρ D σ H → PostF C E S ρ σ H (Ev.callE n F aa ρ D) (fun Q => tCall (spF C.G false true n F) [] E t σ H Q) := by
  intro S ρ D σ H F0
  show PostF C E S ρ σ H _ (fun Q => t σ H fun vs H1 => spF C.G false true n F (vs ++ []) H1 Q E)
  refine PostA.bindF F0 (q S ρ D σ H F0) fun ds D1 vs H1 k1 F1 h1 => ?_
  split
  · rename_i hl
    obtain ⟨p1, p2, p3⟩ := call0_pre F1
    cases hF : F ds D1 with
    | stuck => trivial
    | err c fs D2 =>
      intro z Q
      refine ⟨S, none, ds, D1, vs, rfl, by rw [List.append_nil], hl, p1, F1.tb, trivial, h1.sub p2, ?_⟩
      rw [hF]
      exact err_up F1 z
    | ok r D2 =>
      intro Q hq
      refine ⟨S, none, ds, D1, vs, rfl, by rw [List.append_nil], hl, p1, F1.tb, trivial, h1.sub p2, ?_⟩
      rw [hF]
      intro v H' e rv
      obtain ⟨k, F2⟩ := p3 H' D2 e
      exact hq v H' ⟨k, k.mono fun b m => F1.base b (.inl m)⟩ F2 (back_fr (C' := Ct.mk C.G none S H1) F1 rfl rfl k F2 rv)
  · trivial
theorem ve_callE (h : VA X C E es aa) (hp : ∀ i_ ta, PA (X i_) es ta → PE (X i_) e (tCall (spF C.G false false n F) [] E ta)) : VE X C E e (Ev.callE n F aa) := let ⟨t, p, q⟩ := h.ex; ⟨_, fun i => hp i t (p i), rd_callE q⟩
theorem vf_callE (h : VA X C E es aa) (hp : ∀ i_ ta, PA (X i_) es ta → PE (X i_) e (tCall (spF C.G false true n F) [] E ta)) : VF X C E e (Ev.callE n F aa) := let ⟨t, p, q⟩ := h.ex; ⟨_, fun i => hp i t (p i), rf_callE q⟩
/-! ### a list again and again -/
end
end Fx
set_option Elab.async false
set_option linter.all false
set_option maxRecDepth 100000
set_option maxHeartbeats 2000000
namespace Fx
open PySem PySem.Spec PyProof.Rows L2 Kb
variable [Nm]
/-! ### a module's constants -/
inductive At : V → PyData → Prop
  | non : At .non .none
  | bl (b : Bool) : At (.bl b) (.bool b)
  | int (i : Int) : At (.int i) (.int i)
  | str (x : Str) : At (.str x) (.str x)
theorem At.dt {S : List Addr} {H : Hp} {v : V} {d : PyData} (h : At v d) : Dt S H v d := by
  cases h
  · exact .non
  · exact .bl _
  · exact .int _
  · exact .str _
inductive AtL : List V → List PyData → Prop
  | nil : AtL [] []
  | cons {v : V} {vs : List V} {d : PyData} {ds : List PyData} : At v d → AtL vs ds → AtL (v :: vs) (d :: ds)
theorem AtL.dt {S : List Addr} {H : Hp} : ∀ {vs : List V} {ds : List PyData}, AtL vs ds → DtL S H vs ds
  | _, _, .nil => .nil
  | _, _, .cons h r => .cons h.dt r.dt
inductive AtK : List (Key × V) → List (PyData × PyData) → Prop
  | nil : AtK [] []
  | cons {k : Key} {v : V} {vs : List (Key × V)} {d : PyData} {ds : List (PyData × PyData)} : At v d → AtK vs ds → AtK ((k, v) :: vs) ((keyD k, d) :: ds)
theorem AtK.dt {S : List Addr} {H : Hp} : ∀ {vs : List (Key × V)} {ds : List (PyData × PyData)}, AtK vs ds → DtK S H vs ds
  | _, _, .nil => .nil
  | _, _, .cons h r => .cons h.dt r.dt
inductive Kc (w : World) (K : PySem.W.Frag) : V → PyData → Prop
  | tup {a : Addr} {o : Obj} {its : Array Value} {n : Option Nat} {xs : List V} {ds : List PyData} : (∀ H, SqT K H a xs) → AtL xs ds → Kc w K (.ref a) (.tuple ds)
  | dct {a : Addr} {kvs : List (Key × V)} {ds : List (PyData × PyData)} : KD w K a kvs → AtK kvs ds → Kc w K (.ref a) (.dict ds)
structure CAt (w : World) (K : PySem.W.Frag) (mg : Str → Option Value) (x : Str) (d : PyData) : Prop where
  ex : ∃ a, mg x = some (.ref a) ∧ Kc w K (.ref a) d
structure GAt (mg : Str → Option Value) (x : Str) (d : PyData) : Prop where
  ex : ∃ u v, mg x = some u ∧ RelV v u ∧ At v d
section
variable {ι : Type} {X : ι → Cx} {C : Ct} {E : XK} {S : List Addr} {ρ : Env} {D : Dw} {σ : St} {H : Hp}
variable {a b c e : Expr} {pos p : Pos} {fa fb fc : EX} {x : Str} {d : PyData}
theorem ve_glob (hc : Xc X C) (g : GAt C.G.mg x d) (hg : ∀ i, Gl (X i) x) (hx : (x == Str.ofString "__debug__") = false) : VE X C E (.Name x p) (Ev.c d) := by
  obtain ⟨u, v, h1, h2, h3⟩ := g.ex
  exact ⟨_, fun i => pe_glob (hg i) (by rw [hc.mg i]; exact h1) h2 hx, fun S ρ D σ H F Q hq => hq v H .refl F h3.dt⟩
theorem lookK {kvs : List (Key × V)} {ds : List (PyData × PyData)} (h : AtK kvs ds) (e : PyData) : lookD ds e = (toKey e).map fun k => dlook ds k := by
  cases h with
  | nil => rfl
  | @cons k v vs d ds h r => cases k <;> rfl
theorem d_inC {w : World} {K : PySem.W.Frag} {v : V} (h : Kc w K v d) : DOp1 C (fun x H Q => rIn K false x v H Q ∨ rInK w K false x v H Q) (fun e => gIn e d) := by
  intro S H x e res hx hS hr Q hq
  dsimp only at hr
  unfold gIn at hr
  cases q : inD e d with
  | none => rw [q] at hr; cases hr
  | some b =>
    rw [q] at hr
    cases hr
    cases h with
    | @tup a o its n xs ds hs hl =>
      have q : (if flatD e && ds.all flatD then some (ds.any fun z => PyData.eqv z e) else none) = some b := q
      split at q
      · rename_i hf
        rw [Bool.and_eq_true] at hf
        cases q
        have hxd : Dt S H x e := by
          cases hx with
          | dt h => exact h
          | _ => cases hf.1
        have hl' : DtL S H _ _ := hl.dt
        refine .inl ⟨_, _, rfl, .inr (hs H), hxd.flat hf.1, hl'.flats hf.2, ?_⟩
        rw [if_neg (by decide), hl'.inV hxd hf.1 hf.2]
        exact hq _ _ .refl (.bl _)
      · cases q
    | @dct a kvs ds hk hl =>
      have q : (lookD ds e).map (·.isSome) = some b := q
      rw [lookK hl] at q
      cases z : toKey e with
      | none => rw [z] at q; cases q
      | some k =>
        rw [z] at q
        have q : (dlook ds k).isSome = b := Option.some.inj q
        refine .inr ⟨_, _, k, hx.key z, rfl, hk, ?_⟩
        have hl' : DtK S H _ _ := hl.dt
        rcases hl'.look k with ⟨z1, z2⟩ | ⟨v, d, h2, h3, h4⟩
        · rw [z2] at q
          subst q
          rw [z1, if_neg (by decide)]
          exact hq _ _ .refl (.bl _)
        · rw [h3] at q
          subst q
          rw [h2, if_neg (by decide)]
          exact hq _ _ .refl (.bl _)
theorem d_ninC {w : World} {K : PySem.W.Frag} {v : V} (h : Kc w K v d) : DOp1 C (fun x H Q => rIn K true x v H Q ∨ rInK w K true x v H Q) (fun e => gNotIn e d) := by
  intro S H x e res hx hS hr Q hq
  dsimp only at hr
  unfold gNotIn at hr
  cases q : inD e d with
  | none => rw [q] at hr; cases hr
  | some b =>
    rw [q] at hr
    cases hr
    cases h with
    | @tup a o its n xs ds hs hl =>
      have q : (if flatD e && ds.all flatD then some (ds.any fun z => PyData.eqv z e) else none) = some b := q
      split at q
      · rename_i hf
        rw [Bool.and_eq_true] at hf
        cases q
        have hxd : Dt S H x e := by
          cases hx with
          | dt h => exact h
          | _ => cases hf.1
        have hl' : DtL S H _ _ := hl.dt
        refine .inl ⟨_, _, rfl, .inr (hs H), hxd.flat hf.1, hl'.flats hf.2, ?_⟩
        rw [if_pos rfl, hl'.inV hxd hf.1 hf.2]
        exact hq _ _ .refl (.bl _)
      · cases q
    | @dct a kvs ds hk hl =>
      have q : (lookD ds e).map (·.isSome) = some b := q
      rw [lookK hl] at q
      cases z : toKey e with
      | none => rw [z] at q; cases q
      | some k =>
        rw [z] at q
        have q : (dlook ds k).isSome = b := Option.some.inj q
        refine .inr ⟨_, _, k, hx.key z, rfl, hk, ?_⟩
        have hl' : DtK S H _ _ := hl.dt
        rcases hl'.look k with ⟨z1, z2⟩ | ⟨v, d, h2, h3, h4⟩
        · rw [z2] at q
          subst q
          rw [z1, if_pos rfl]
          exact hq _ _ .refl (.bl _)
        · rw [h3] at q
          subst q
          rw [h2, if_pos rfl]
          exact hq _ _ .refl (.bl _)
theorem d_ixC {w : World} {K : PySem.W.Frag} {v : V} (h : Kc w K v d) : DOp1 C (fun y H Q => rIx K v y H Q ∨ rGetK w K v y H Q) (fun e => gIx d e) := by
  intro S H y e res hy hS hr Q hq
  dsimp only at hr
  cases h with
  | @tup a o its n xs ds hs hl =>
    cases e with
    | int i =>
      have hr : atI ds i = some res := hr
      obtain ⟨v, h1, h2⟩ := DtL.at (S := S) (H := H) hl.dt hr
      have hy : y = .int i := hy.int_inv
      subst hy
      exact .inl (.inr (.inl ⟨_, _, _, _, rfl, rfl, hs H, h1, hq _ _ .refl h2⟩))
    | _ => cases hr
  | @dct a kvs ds hk hl =>
    have hr : (lookD ds e).bind id = some res := by
      cases e <;> exact hr
    rw [lookK hl] at hr
    cases z : toKey e with
    | none => rw [z] at hr; cases hr
    | some k =>
      rw [z] at hr
      have hr : dlook _ k = some res := hr
      have hl' : DtK S H _ _ := hl.dt
      rcases hl'.look k with ⟨z1, z2⟩ | ⟨v, d, h2, h3, h4⟩
      · rw [z2] at hr; cases hr
      · rw [h3] at hr
        cases hr
        exact .inr ⟨_, _, k, v, rfl, hy.key z, hk, h2, hq _ _ .refl h4⟩
theorem ve_inC (hc : Xc X C) (g : CAt C.G.w C.G.K C.G.mg x d) (hg : ∀ i, Gl (X i) x) (ha : VB X C E a fa) (hx : (x == Str.ofString "__debug__") = false) (hm : behindInMarks .In (.Name x p) = false) : VE X C E (.Compare a [.In] [.Name x p] pos) (Ev.u1 (fun e => gIn e d) fa) := by
  obtain ⟨r, h1, h2⟩ := g.ex
  refine ve_u1 (fun i ta pa => ?_) (d_inC h2) ha
  have o : OpR (X i) (compareOp .In) (fun x y H Q => rIn C.G.K false x y H Q ∨ rInK C.G.w C.G.K false x y H Q) := by
    have := (op_in_seq (X := X i)).or op_inK
    rw [hc.K i, hc.w i] at this
    exact this
  exact pe_cmpR o pa (pe_glob (v := .ref r) (hg i) (by rw [hc.mg i]; exact h1) rfl hx) hm
theorem ve_ninC (hc : Xc X C) (g : CAt C.G.w C.G.K C.G.mg x d) (hg : ∀ i, Gl (X i) x) (ha : VB X C E a fa) (hx : (x == Str.ofString "__debug__") = false) (hm : behindInMarks .NotIn (.Name x p) = false) : VE X C E (.Compare a [.NotIn] [.Name x p] pos) (Ev.u1 (fun e => gNotIn e d) fa) := by
  obtain ⟨r, h1, h2⟩ := g.ex
  refine ve_u1 (fun i ta pa => ?_) (d_ninC h2) ha
  have o : OpR (X i) (compareOp .NotIn) (fun x y H Q => rIn C.G.K true x y H Q ∨ rInK C.G.w C.G.K true x y H Q) := by
    have := (op_notIn_seq (X := X i)).or op_notInK
    rw [hc.K i, hc.w i] at this
    exact this
  exact pe_cmpR o pa (pe_glob (v := .ref r) (hg i) (by rw [hc.mg i]; exact h1) rfl hx) hm
theorem rd_u1 {ta : TE} {r : V → Hp → VK → Prop} {g : PyData → Option PyData} (hg : DOp1 C r g) (qa : RdB C E ta fa) : RdE C E (fun σ H Q => ta σ H fun x H1 => r x H1 Q) (Ev.u1 g fa) := by
  intro S ρ D σ H F
  refine PostE.bind (qa S ρ D σ H F) fun d D1 x H1 k1 F1 h1 => ?_
  exact ofO_post F1 fun res e Q hq => hg S H1 x d res (h1.sn F1) F1.dom e Q hq
theorem vt_inC (hc : Xc X C) (g : CAt C.G.w C.G.K C.G.mg x d) (hg : ∀ i, Gl (X i) x) (ha : VB X C E a fa) (hx : (x == Str.ofString "__debug__") = false) (hm : behindInMarks .In (.Name x p) = false) : VT X C E (.Compare a [.In] [.Name x p] pos) (Ev.tb (Ev.u1 (fun e => gIn e d) fa)) := by
  obtain ⟨r, h1, h2⟩ := g.ex
  obtain ⟨ta, pa, qa⟩ := ha.ex
  refine ⟨_, fun i => ?_, rd_tb (rd_u1 (d_inC h2) qa)⟩
  have o : OpR (X i) (compareOp .In) (fun x y H Q => rIn C.G.K false x y H Q ∨ rInK C.G.w C.G.K false x y H Q) := by
    have := (op_in_seq (X := X i)).or op_inK
    rw [hc.K i, hc.w i] at this
    exact this
  exact pt_cmpR o (pa i) (pe_glob (v := .ref r) (hg i) (by rw [hc.mg i]; exact h1) rfl hx) hm
theorem vt_ninC (hc : Xc X C) (g : CAt C.G.w C.G.K C.G.mg x d) (hg : ∀ i, Gl (X i) x) (ha : VB X C E a fa) (hx : (x == Str.ofString "__debug__") = false) (hm : behindInMarks .NotIn (.Name x p) = false) : VT X C E (.Compare a [.NotIn] [.Name x p] pos) (Ev.tb (Ev.u1 (fun e => gNotIn e d) fa)) := by
  obtain ⟨r, h1, h2⟩ := g.ex
  obtain ⟨ta, pa, qa⟩ := ha.ex
  refine ⟨_, fun i => ?_, rd_tb (rd_u1 (d_ninC h2) qa)⟩
  have o : OpR (X i) (compareOp .NotIn) (fun x y H Q => rIn C.G.K true x y H Q ∨ rInK C.G.w C.G.K true x y H Q) := by
    have := (op_notIn_seq (X := X i)).or op_notInK
    rw [hc.K i, hc.w i] at this
    exact this
  exact pt_cmpR o (pa i) (pe_glob (v := .ref r) (hg i) (by rw [hc.mg i]; exact h1) rfl hx) hm
theorem ve_ixC (hc : Xc X C) (g : CAt C.G.w C.G.K C.G.mg x d) (hg : ∀ i, Gl (X i) x) (hb : VB X C E b fb) (hx : (x == Str.ofString "__debug__") = false) (hs : PlainIx b) : VE X C E (.Subscript (.Name x p) b pos) (Ev.u1 (fun e => gIx d e) fb) := by
  obtain ⟨r, h1, h2⟩ := g.ex
  obtain ⟨tb, pb, qb⟩ := hb.ex
  refine ⟨_, fun i => ?_, rd_u1 (d_ixC h2) qb⟩
  have o : IxR (X i) (fun x y H Q => rIx C.G.K x y H Q ∨ rGetK C.G.w C.G.K x y H Q) := by
    have := (ix_seq (X := X i)).or ix_kd
    rw [hc.K i, hc.w i] at this
    exact this
  exact pe_ix o (pe_glob (v := .ref r) (hg i) (by rw [hc.mg i]; exact h1) rfl hx) (pb i) hs
end
end Fx
set_option Elab.async false
set_option linter.all false
set_option maxRecDepth 100000
set_option maxHeartbeats 2000000
namespace Fx
open PySem PySem.Spec PyProof.Rows L2 Kb
variable [Nm]
section
variable {P : Program} {w : World} {K : PySem.W.Frag} {mg : Str → Option Value} {base : Heap}
/-- as okF, with the def's code named (generator expressions, lambdas) -/
theorem okFC {x qual : Str} {st : Stmt} {fa c : Addr} {fd : FuncData} {N ps : List Str} {k n : Nat} {G : Gt} {dr fr : Bool} {f : ST} (F : Fun K x qual st fa fd) (hc : fd.code = .ref c) (S : FnScope N ps (defScope st)) (hps : ps.length = (if dr = true then 1 else 0) + n) (hN : ps.length ≤ N.length)
    (hb : ∀ (A : Around) (outer : List PySem.Env) (s : Shared) (H : Hp) (E : XK) (U : List Addr) (dd : Option (Addr × Addr × Addr)), Room k (A.deeper (envOfC qual (defScope st) s.heap.objs.size fa (.ref c))) →
      VSs (fun _ : Unit => (cxOf CX0 P w K mg base N qual (defScope st) fa (.ref c) A outer s H E).nox) (Ct.mk G dd U H) E0 fr (defBody st) f) :
    FnOk P w K mg base CX0 (k + 1) fa fd ps (spF G dr fr n (runF false dr fr N.length f)) := by
  refine okC0 F hc S (fun vs H Q E h => by rw [spF_len h, hps]) (fun A outer s H vs Q E hr h => ?_)
  have hlv := spF_len h
  obtain ⟨U, dd, ds, D, us, h1, hv, h2, h3, h4, h5, h6, h7⟩ := h
  obtain ⟨t, p, q⟩ := (hb A outer s H E U dd hr).ex
  refine ⟨t, p (), ?_⟩
  have F0 := fm_start (N := N) hv (by rw [hlv, ← hps]; exact hN) h3 h4 h5 h6
  have B := q _ _ D _ H { nx := fun _ H' => Q .non H', rt := Q } F0
  unfold runF at h7
  rw [← h1] at h7
  cases hf : f (env0 dd.isSome N.length ds) D with
  | stuck => rw [hf] at h7; exact h7.elim
  | err c fs D' =>
    rw [hf] at h7
    dsimp only at h7
    rw [if_neg (by decide)] at h7
    exact h7.elim
  | ok pp D' =>
    rw [hf] at h7 B
    obtain ⟨o, ρ'⟩ := pp
    cases o with
    | nx =>
      cases fr with
      | true => exact h7.elim
      | false => exact B fun S' σ' H' x F' => h7 .non H' F'.end (.non : Dt _ _ _ _)
    | ret d => exact B fun v H' e r => h7 v H' e r
    | brk => exact h7.elim
    | ct => exact h7.elim
theorem okFCx {x qual : Str} {st : Stmt} {fa c : Addr} {fd : FuncData} {N ps : List Str} {k n : Nat} {G : Gt} {dr fr : Bool} {f : ST} (F : Fun K x qual st fa fd) (hc : fd.code = .ref c) (S : FnScope N ps (defScope st)) (hps : ps.length = (if dr = true then 1 else 0) + n) (hN : ps.length ≤ N.length)
    (hb : ∀ (A : Around) (outer : List PySem.Env) (s : Shared) (H : Hp) (E : XK) (U : List Addr) (dd : Option (Addr × Addr × Addr)), Room k (A.deeper (envOfC qual (defScope st) s.heap.objs.size fa (.ref c))) →
      VSs (fun _ : Unit => cxOf (L2.CX P w) P w K mg base N qual (defScope st) fa (.ref c) A outer s H E) (Ct.mk G dd U H) E fr (defBody st) f) :
    FnOk P w K mg base (L2.CX P w) (k + 1) fa fd ps (spF G dr fr n (runF true dr fr N.length f)) := by
  refine okC F hc S (fun vs H Q E h => by rw [spF_len h, hps]) (fun A outer s H vs Q E hr h => ?_)
  have hlv := spF_len h
  obtain ⟨U, dd, ds, D, us, h1, hv, h2, h3, h4, h5, h6, h7⟩ := h
  obtain ⟨t, p, q⟩ := (hb A outer s H E U dd hr).ex
  refine ⟨t, p (), ?_⟩
  have F0 := fm_start (N := N) hv (by rw [hlv, ← hps]; exact hN) h3 h4 h5 h6
  have B := q _ _ D _ H { nx := fun _ H' => Q .non H', rt := Q } F0
  unfold runF at h7
  rw [← h1] at h7
  cases hf : f (env0 dd.isSome N.length ds) D with
  | stuck => rw [hf] at h7; exact h7.elim
  | err c fs D' =>
    rw [hf] at h7 B
    dsimp only at h7
    rw [if_pos rfl] at h7
    exact B h7
  | ok pp D' =>
    rw [hf] at h7 B
    obtain ⟨o, ρ'⟩ := pp
    cases o with
    | nx =>
      cases fr with
      | true => exact h7.elim
      | false => exact B fun S' σ' H' x F' => h7 .non H' F'.end (.non : Dt _ _ _ _)
    | ret d => exact B fun v H' e r => h7 v H' e r
    | brk => exact h7.elim
    | ct => exact h7.elim
end
theorem hu65g {ι : Type} {X : ι → Cx} {scope : Scope} {own : List Str} {k : Nat} (hr : ∀ i, Room (k + 3) (X i).A) : ∀ j, (famG X scope own j).A.units + 65 < cLine := fun j => by
  have : Room k (famG X scope own j).A := ((hr j.1).in1.in1.deeper _)
  have := this.un
  omega
theorem hu64g {ι : Type} {X : ι → Cx} {scope : Scope} {own : List Str} {k : Nat} (hr : ∀ i, Room (k + 3) (X i).A) : ∀ j, (famG X scope own j).A.units + 64 < cLine := fun j => by have := hu65g (scope := scope) (own := own) hr j; omega
theorem hu1g {ι : Type} {X : ι → Cx} {scope : Scope} {own : List Str} {k : Nat} (hr : ∀ i, Room (k + 3) (X i).A) : ∀ j, (famG X scope own j).A.units + 1 < cLine := fun j => by have := hu65g (scope := scope) (own := own) hr j; omega
theorem hu0g {ι : Type} {X : ι → Cx} {scope : Scope} {own : List Str} {k : Nat} (hr : ∀ i, Room (k + 3) (X i).A) : ∀ j, (famG X scope own j).A.units < cLine := fun j => by have := hu65g (scope := scope) (own := own) hr j; omega
end Fx
set_option Elab.async false
set_option linter.all false
set_option maxRecDepth 100000
set_option maxHeartbeats 4000000
namespace Fx
open PySem PySem.Spec PyProof.Rows L2 Kb
variable [Nm]
/-! ### the draw, by value -/
def mixG (cs : List Int) (t p : Int) : Int := cs.foldl (fun b g => (b * 69621 + g + t) % p) (48271 * t + p / 37)
def primes : List Int := [2147483647, 2147483629, 2147483587, 2147483579]
def mixF (cs : List Int) (t : Int) : Int := primes.foldl (fun fo p => fo * 2147483647 + (mixG cs t p) ^ 5 % p) 0
def f_l_mixed : List PyData → Dw → R PyData := fun ds D => match ds with
  | [] => if 0 ≤ D.turn ∧ D.turn ≤ 1000000000 then .ok (.int (mixF D.cells (D.turn + 1))) { D with turn := D.turn + 1 } else .stuck
  | _ => .stuck
/-- what is left to be told apart -/
def restF (D : Dw) : Int × Dw := if D.rest = 0 then match D.wide with
    | w0 :: wr => (w0, { D with wide := wr })
    | [] => (mixF D.cells (D.turn + 1), { D with turn := D.turn + 1 })
  else (D.rest, D)
def takeF (many : Int) (D : Dw) : Int × Dw := ((restF D).1 % many, { (restF D).2 with rest := (restF D).1 / many })
def f_l_take : List PyData → Dw → R PyData := fun ds D => match ds with
  | [.int many] => if 0 < many ∧ many < 1073741824 ∧ 0 ≤ D.turn ∧ D.turn ≤ 1000000000 then .ok (.int (takeF many D).1) (takeF many D).2 else .stuck
  | _ => .stuck
theorem dr_w (w c : Addr) (r t : Int) : valV (drawKV w c r t) (.inr "wide") = some (.ref w) := rfl
theorem dr_c (w c : Addr) (r t : Int) : valV (drawKV w c r t) (.inr "cells") = some (.ref c) := rfl
theorem dr_r (w c : Addr) (r t : Int) : valV (drawKV w c r t) (.inr "rest") = some (.int r) := rfl
theorem dr_t (w c : Addr) (r t : Int) : valV (drawKV w c r t) (.inr "turn") = some (.int t) := rfl
theorem dp_r (w c : Addr) (r t r' : Int) : putK (drawKV w c r t) (.inr "rest") (.int r') = drawKV w c r' t := rfl
theorem dp_t (w c : Addr) (r t t' : Int) : putK (drawKV w c r t) (.inr "turn") (.int t') = drawKV w c r t' := rfl
section
variable {H : Hp} {d w c : Addr} {r t : Int}
theorem get_w (e : H d = some (.dK (drawKV w c r t))) : DGet H d (.str "wide") (some (.ref w)) := dr_w w c r t ▸ DGet.k (k := .inr "wide") e
theorem get_c (e : H d = some (.dK (drawKV w c r t))) : DGet H d (.str "cells") (some (.ref c)) := dr_c w c r t ▸ DGet.k (k := .inr "cells") e
theorem get_r (e : H d = some (.dK (drawKV w c r t))) : DGet H d (.str "rest") (some (.int r)) := dr_r w c r t ▸ DGet.k (k := .inr "rest") e
theorem get_t (e : H d = some (.dK (drawKV w c r t))) : DGet H d (.str "turn") (some (.int t)) := dr_t w c r t ▸ DGet.k (k := .inr "turn") e
theorem four_line : (drawKV w c r t).length < sizeLine := by
  show 4 < sizeLine
  rw [sizeLine_eq]
  decide
theorem put_r {r' : Int} (e : H d = some (.dK (drawKV w c r t))) : DPut H d (.str "rest") (.int r') (upd H d (.dK (drawKV w c r' t))) := dp_r w c r t r' ▸ DPut.k (k := .inr "rest") (v := .int r') e four_line
theorem put_t {t' : Int} (e : H d = some (.dK (drawKV w c r t))) : DPut H d (.str "turn") (.int t') (upd H d (.dK (drawKV w c r t'))) := dp_t w c r t t' ▸ DPut.k (k := .inr "turn") (v := .int t') e four_line
end
/-- tables, where none is touched -/
theorem TbOk.off {G : Gt} {H H' : Hp} {S : List Addr} (h : TbOk G H) (k : Kp S H H') (n : ∀ a ∈ S, ∀ ps, H a ≠ some (.tbl ps)) (m : ∀ a ∈ S, ∀ o q, H a = some o → o ≠ LamX.CodeO a q) : TbOk G H' := by
  refine ⟨fun P hP => ?_, fun p hp => ?_⟩
  · obtain ⟨ps, e, t⟩ := h.g P hP
    exact ⟨ps, k _ _ e (.inr fun z => n P z ps e), t⟩
  · obtain ⟨ps, e, t, q⟩ := h.q p hp
    refine ⟨ps, k _ _ e (.inr fun z => n _ z ps e), t, fun pos cv z => ?_⟩
    obtain ⟨c, rfl, y⟩ := q pos cv z
    exact ⟨c, rfl, k _ _ y (.inr fun z => m c z _ _ y rfl)⟩
theorem tb_draw {G : Gt} {H H' : Hp} {d w : Addr} {kv : List (Key × V)} {xs : List V} (h : TbOk G H) (k : Kp [d, w] H H') (e1 : H d = some (.dK kv)) (e2 : H w = some (.lst xs)) : TbOk G H' := by
  refine h.off k (fun a m ps z => ?_) (fun a m o q e z => ?_)
  · simp only [List.mem_cons, List.not_mem_nil, or_false] at m
    rcases m with rfl | rfl
    · rw [e1] at z; cases z
    · rw [e2] at z; cases z
  · simp only [List.mem_cons, List.not_mem_nil, or_false] at m
    subst z
    rcases m with rfl | rfl
    · rw [e1] at e; cases e
    · rw [e2] at e; cases e
theorem fold_take {α β : Type} (f : β → α → β) (b : β) (xs : List α) (i : Nat) (x : α) (h : xs[i]? = some x) : (xs.take (i + 1)).foldl f b = f ((xs.take i).foldl f b) x := by
  obtain ⟨hi, e⟩ := List.getElem?_eq_some_iff.mp h
  rw [List.take_succ_eq_append_getElem hi, List.foldl_append, e]
  rfl
section
variable {P : Program} {w0 : World} {K : PySem.W.Frag} {mg : Str → Option Value} {base : Heap}
/-- from a draw's own promise -/
def spMix (G : Gt) : Sp := fun vs H Q _ => ∃ d w c D, vs = [.ref d] ∧ DrE H d w c D ∧ 0 ≤ D.turn ∧ D.turn ≤ 1000000000 ∧ ∀ H', Kp [d] H H' → DrE H' d w c { D with turn := D.turn + 1 } → Q (.int (mixF D.cells (D.turn + 1))) H'
def spTk (G : Gt) : Sp := fun vs H Q _ => ∃ d w c D many, vs = [.ref d, .int many] ∧ DrE H d w c D ∧ TbOk G H ∧ 0 < many ∧ many < 1073741824 ∧ 0 ≤ D.turn ∧ D.turn ≤ 1000000000 ∧ ∀ H', Kp (G.tabs ++ [d, w]) H H' → TbOk G H' → DrE H' d w c (takeF many D).2 → Q (.int (takeF many D).1) H'
theorem spF_mix {G : Gt} {vs : List V} {H : Hp} {Q : VK} {E : XK} (h : spF G true false 0 f_l_mixed vs H Q E) : spMix G vs H Q E := by
  obtain ⟨U, dd, ds, D, us, h1, hv, h2, h3, h4, h5, h6, h7⟩ := h
  cases dd with
  | none => cases h1
  | some q =>
    obtain ⟨d, w, c⟩ := q
    obtain rfl : ds = [] := List.eq_nil_of_length_eq_zero h2
    cases h6
    have hD : DrE H d w c D := h5
    by_cases ht : 0 ≤ D.turn ∧ D.turn ≤ 1000000000
    case neg => simp only [f_l_mixed, if_neg ht] at h7
    simp only [f_l_mixed, if_pos ht] at h7
    refine ⟨d, w, c, D, hv, hD, ht.1, ht.2, fun H' k hD' => ?_⟩
    have k2 : Kp [d, w] H H' := k.mono fun b m => by rw [List.mem_singleton.mp m]; simp
    exact h7 _ H' ⟨k2.mono fun b m => List.mem_append_right _ m, tb_draw h4 k2 hD.dr hD.wi, hD'⟩ (.int _)
theorem spF_take {G : Gt} {vs : List V} {H : Hp} {Q : VK} {E : XK} (h : spF G true false 1 f_l_take vs H Q E) : spTk G vs H Q E := by
  obtain ⟨U, dd, ds, D, us, h1, hv, h2, h3, h4, h5, h6, h7⟩ := h
  cases dd with
  | none => cases h1
  | some q =>
    obtain ⟨d, w, c⟩ := q
    have hD : DrE H d w c D := h5
    obtain ⟨x, rfl⟩ := List.length_eq_one_iff.mp h2
    cases h6 with
    | cons h r =>
      cases r
      cases h with
      | int many =>
        by_cases hm : 0 < many ∧ many < 1073741824 ∧ 0 ≤ D.turn ∧ D.turn ≤ 1000000000
        · simp only [f_l_take, if_pos hm] at h7
          refine ⟨d, w, c, D, many, hv, hD, h4, hm.1, hm.2.1, hm.2.2.1, hm.2.2.2, fun H' k tb hD' => ?_⟩
          exact h7 _ H' ⟨k, tb, hD'⟩ (.int _)
        · simp only [f_l_take, if_neg hm] at h7
      | _ => exact h7.elim
theorem mk_mix {G : Gt} {H : Hp} {Q : VK} {E : XK} {d w c : Addr} {D : Dw} (hD : DrE H d w c D) (tb : TbOk G H) (h0 : 0 ≤ D.turn) (h1 : D.turn ≤ 1000000000)
    (q : ∀ H', Kp (G.tabs ++ [d, w]) H H' → TbOk G H' → DrE H' d w c { D with turn := D.turn + 1 } → Q (.int (mixF D.cells (D.turn + 1))) H') : spF G true false 0 f_l_mixed [.ref d] H Q E := by
  refine ⟨[], some (d, w, c), [], D, [], rfl, rfl, rfl, fun a m => ?_, tb, hD, .nil, ?_⟩
  · rcases m with m | m
    · rcases List.mem_append.mp m with z | z
      · obtain ⟨ps, e⟩ := tb.tbl z
        exact isSome e
      · have z : a ∈ [d, w] := z
        simp only [List.mem_cons, List.not_mem_nil, or_false] at z
        rcases z with rfl | rfl
        · exact isSome hD.dr
        · exact isSome hD.wi
    · exact absurd m List.not_mem_nil
  · simp only [f_l_mixed, if_pos (And.intro h0 h1)]
    intro v H' e r
    cases r
    exact q H' e.kp e.tb e.dr
theorem eqv_nil (ws : List Int) : PyData.eqv (.list (ws.map PyData.int)) (.list []) = ws.isEmpty := by
  cases ws <;> rfl
theorem shaped_ints (ns : List Int) : SeqAt.shaped (.list (ns.map PyData.int)) = true := by
  have h1 : ∀ ns : List Int, PyData.canLayAll0 (ns.map PyData.int) = true ∧ PyData.depthAll (ns.map PyData.int) = 0 := by
    intro ns
    induction ns with
    | nil => exact ⟨rfl, rfl⟩
    | cons i r ih =>
      refine ⟨?_, ?_⟩
      · show (true && PyData.canLayAll0 (r.map PyData.int)) = true
        rw [ih.1] <;> rfl
      · show max 0 (PyData.depthAll (r.map PyData.int)) = 0
        rw [ih.2] <;> rfl
  unfold SeqAt.shaped
  have e1 : (PyData.list (ns.map PyData.int)).canLay0 = true := (h1 ns).1
  have e2 : (PyData.list (ns.map PyData.int)).depth = 1 := by
    show PyData.depthAll _ + 1 = 1
    rw [(h1 ns).2]
  rw [e1, e2] <;> rfl
theorem dt_ints {S : List Addr} {H : Hp} : ∀ ns : List Int, DtL S H (ns.map V.int) (ns.map PyData.int)
  | [] => .nil
  | _ :: r => .cons (.int _) (dt_ints r)
theorem dp_ints {K : PySem.W.Frag} {H : Hp} : ∀ ns : List Int, DpAll K H (ns.map V.int) (ns.map PyData.int)
  | [] => .nil
  | _ :: r => .cons (.int _) (dp_ints r)
end
end Fx
set_option Elab.async false
set_option linter.all false
set_option maxRecDepth 100000
set_option maxHeartbeats 2000000
namespace Fx
open PySem PySem.Spec PyProof.Rows L2 Kb
variable [Nm]
namespace Sv
def par3 (i j l : Nat) (a b c : EX) : ST := fun ρ D => (a ρ D).bind fun x D1 => (b ρ D1).bind fun y D2 => (c ρ D2).bind fun z D3 => .ok (.nx, ((ρ.set i (some (.d x))).set j (some (.d y))).set l (some (.d z))) D3
end Sv
section
variable {ι : Type} {X : ι → Cx} {C : Ct} {E : XK} {fr : Bool} {S : List Addr} {ρ : Env} {D : Dw} {σ : St} {H : Hp} {Dn : Ends}
variable {a b c e : Expr} {st : Stmt} {es : List Expr} {pos : Pos} {fa fb fc : EX} {ga gb : EB} {aa : EA} {f g : ST}
theorem vs_par3 {i j l : Nat} (hp : ∀ i_ ta tb tc, PE (X i_) a ta → PE (X i_) b tb → PE (X i_) c tc → PS (X i_) st (tPar3 i j l (tCons ta (tCons tb (tCons tc tNil))))) (ha : VE X C E a fa) (hb : VE X C E b fb) (hc : VE X C E c fc) : VS X C E fr st (Sv.par3 i j l fa fb fc) := by
  obtain ⟨ta, pa, qa⟩ := ha.ex
  obtain ⟨tb, pb, qb⟩ := hb.ex
  obtain ⟨tc, pc, qc⟩ := hc.ex
  refine ⟨_, (fun i_ => hp i_ ta tb tc (pa i_) (pb i_) (pc i_)), fun S ρ D σ H Dn F => ?_⟩
  show PostS C E fr S H Dn _ (ta σ H fun x H1 => tb σ H1 fun y H2 => tc σ H2 fun z H3 => ∃ u v w, [x, y, z] = [u, v, w] ∧ Dn.nx (((σ.set i (some u)).set j (some v)).set l (some w)) H3)
  refine PostE.bindS (qa S ρ D σ H F) fun d D1 x H1 k1 F1 h1 => ?_
  refine PostE.bindS (qb S ρ D1 σ H1 F1) fun d2 D2 y H2 k2 F2 h2 => ?_
  refine PostE.bindS (qc S ρ D2 σ H2 F2) fun d3 D3 z H3 k3 F3 h3 => ?_
  exact fun q => ⟨x, y, z, rfl, q S _ H3 .refl (((F3.setD (i := i) ((h1.kp k2.s).kp k3.s)).setD (i := j) (h2.kp k3.s)).setD (i := l) h3)⟩
/-! ### new lists by operators -/
/-- a binary operation that makes a list -/
def DFr2 (C : Ct) (r : R2) (g : PyData → PyData → Option PyData) : Prop := ∀ S H x y d e res, Sn S H x d → Sn S H y e → (∀ a ∈ S, H a ≠ none) → g d e = some res →
  ∀ Q : VK, (∀ p vs xs, H p = none → res = .list xs → DtL S H vs xs → Q (.ref p) (upd H p (.lst vs))) → r x y H Q
theorem vf_o2 {e1 e2 e : Expr} {r : R2} {g : PyData → PyData → Option PyData} (hp : ∀ i_ ta tb, PE (X i_) e1 ta → PE (X i_) e2 tb → PE (X i_) e (tOp r ta tb)) (hg : DFr2 C r g) (ha : VB X C E e1 fa) (hb : VB X C E e2 fb) : VF X C E e (Ev.o2 g fa fb) := by
  obtain ⟨ta, pa, qa⟩ := ha.ex
  obtain ⟨tb, pb, qb⟩ := hb.ex
  refine ⟨_, (fun i_ => hp i_ ta tb (pa i_) (pb i_)), fun S ρ D σ H F => ?_⟩
  show PostF C E S ρ σ H _ (fun Q => ta σ H fun x H1 => tb σ H1 fun y H2 => r x y H2 Q)
  have A := qa S ρ D σ H F
  unfold Ev.o2
  cases h1 : fa ρ D with
  | stuck => trivial
  | err c fs D1 => rw [h1] at A; exact fun e Q => A e _
  | ok d D1 =>
    rw [h1] at A
    simp only [bind_ok]
    have B := fun H1 (F1 : Fm C S ρ D1 σ H1) => qb S ρ D1 σ H1 F1
    cases h2 : fb ρ D1 with
    | stuck => trivial
    | err c fs D2 =>
      rw [h2] at B
      exact fun e Q => A _ fun x H1 k1 F1 b1 => B H1 F1 e _
    | ok d2 D2 =>
      rw [h2] at B
      simp only [bind_ok]
      cases h3 : g d d2 with
      | none => trivial
      | some res =>
        refine fun Q hq => A _ fun x H1 k1 F1 b1 => B H1 F1 _ fun y H2 k2 F2 b2 => ?_
        refine hg S H2 x y d d2 res ((b1.kp k2.s).sn F2) (b2.sn F2) F2.dom h3 Q fun p vs xs n hr hd => ?_
        subst hr
        have k12 := k1.trans k2
        exact hq _ _ (k12.trans (.new n)) (F2.grow (Kp.new n)) ⟨p, rfl, up_none F k12.s n (fun m => F2.dom p m n), F2.newS n, .inl ⟨vs, xs, rfl, upd_same, (hd.grow n).kp (Kp.new n)⟩⟩
def gCatL : PyData → PyData → Option PyData
  | .list xs, .list ys => if xs.length + ys.length ≤ sizeLine then some (.list (xs ++ ys)) else none
  | _, _ => none
theorem d_catL : DFr2 C rCat gCatL := by
  intro S H x y d e res hx hy hS hr Q hq
  unfold gCatL at hr
  split at hr
  · split at hr
    · rename_i h
      cases hr
      obtain ⟨a, vs, rfl, ea, ha⟩ := hx.lst_inv
      obtain ⟨b, us, rfl, eb, hb⟩ := hy.lst_inv
      have l1 := ha.len
      have l2 := hb.len
      exact ⟨a, b, vs, us, rfl, rfl, ea, eb, by rw [l1, l2]; exact h, fun p n => hq p _ _ n rfl (ha.app hb)⟩
    · cases hr
  · cases hr
theorem vf_cat (ha : VB X C E a fa) (hb : VB X C E b fb) : VF X C E (.BinOp a .Add b pos) (Ev.o2 gCatL fa fb) := vf_o2 (fun i _ _ pa pb => pe_op op_cat pa pb) d_catL ha hb
/-- a list again and again -/
def gRep : PyData → PyData → Option PyData
  | .list xs, .int k => if -(2 ^ 63) ≤ k ∧ k < 2 ^ 63 ∧ xs.length * k.toNat ≤ sizeLine then some (.list (List.replicate k.toNat xs).flatten) else none
  | _, _ => none
theorem DtL.rep {vs : List V} {xs : List PyData} (h : DtL S H vs xs) : ∀ n : Nat, DtL S H (List.replicate n vs).flatten (List.replicate n xs).flatten
  | 0 => .nil
  | n + 1 => by
    rw [List.replicate_succ, List.replicate_succ, List.flatten_cons, List.flatten_cons]
    exact h.app (DtL.rep h n)
theorem d_rep : DFr2 C rRep gRep := by
  intro S H x y d e res hx hy hS hr Q hq
  unfold gRep at hr
  split at hr
  · split at hr
    · rename_i h
      cases hr
      obtain ⟨a, vs, rfl, ea, ha⟩ := hx.lst_inv
      rw [hy.int_inv]
      have l1 := ha.len
      exact ⟨a, _, vs, rfl, rfl, ea, h.1, h.2.1, by rw [l1]; exact h.2.2, fun p n => hq p _ _ n rfl (ha.rep _)⟩
    · cases hr
  · cases hr
theorem vf_rep (ha : VB X C E a fa) (hb : VB X C E b fb) : VF X C E (.BinOp a .Mult b pos) (Ev.o2 gRep fa fb) := vf_o2 (fun i _ _ pa pb => pe_op op_rep pa pb) d_rep ha hb
end
end Fx
set_option Elab.async false
set_option linter.all false
set_option maxRecDepth 100000
set_option maxHeartbeats 2000000
namespace Fx
open PySem PySem.Spec PyProof.Rows L2 Kb
variable [Nm]
namespace Ev
def dcLoop (ρ : Env) (g : EG) (t : EB) (a b : EX) : List (PyData × PyData) → List PyData → Dw → R (List (PyData × PyData))
  | acc, [], D => .ok acc D
  | acc, d :: r, D => match g d ρ with
    | none => .stuck
    | some ρ1 => match t ρ1 D with
      | .ok true D1 => match a ρ1 D1 with
        | .ok y D2 => match b ρ1 D2 with
          | .ok z D3 => match toKey y with
            | some k => dcLoop ρ g t a b (Sv.putK acc k z) r D3
            | none => .stuck
          | _ => .stuck
        | _ => .stuck
      | .ok false D1 => dcLoop ρ g t a b acc r D1
      | _ => .stuck
/-- {a: b for g in it if t}, its keys plain -/
def dc (vs : List Nat) (it : EA) (g : EG) (t : EB) (a b : EX) : EX := fun ρ D => (it ρ D).bind fun ds D1 => if ds.length < 10000000 ∧ noOwn ρ vs = true then (dcLoop (wipeE ρ vs) g t a b [] ds D1).bind fun ys D2 => .ok (.dict ys) D2 else .stuck
end Ev
theorem putK_len (ds : List (PyData × PyData)) (k : Key) (v : PyData) : (Sv.putK ds k v).length ≤ ds.length + 1 := by
  unfold Sv.putK
  split
  · rw [List.length_map]; omega
  · rw [List.length_append]; exact Nat.le_refl _
section
variable {ι : Type} {X : ι → Cx} {C : Ct} {E : XK} {fr : Bool} {S : List Addr} {ρ : Env} {D : Dw} {σ : St} {H : Hp} {Dn : Ends}
variable {a b c e : Expr} {st : Stmt} {rest sts sts' : List Stmt} {es : List Expr} {pos : Pos} {fa fb fc : EX} {ga gb : EB} {aa : EA} {f g : ST}
theorem dc_noerr {ρ : Env} {gg : EG} {c : Str} {fs : List (PyData × PyData)} {D2 : Dw} : ∀ (ds : List PyData) (acc : List (PyData × PyData)) (D : Dw), Ev.dcLoop ρ gg ga fa fb acc ds D ≠ .err c fs D2
  | [], acc, D, h => by unfold Ev.dcLoop at h; cases h
  | d :: r, acc, D, h => by
    unfold Ev.dcLoop at h
    split at h
    · cases h
    · split at h
      · split at h
        · split at h
          · split at h
            · exact dc_noerr r _ _ h
            · cases h
          · cases h
        · cases h
      · exact dc_noerr r _ _ h
      · cases h
/-- the block's reading, from the walk on -/
theorem dc_run {J : It} {t : TG} {tt : TT} {te tv : TE} {gg : EG} {vs ks : List Nat} {ds : List PyData} {ys : List (PyData × PyData)} {D2 : Dw} {Q : VK} {p : Addr} (hks : ∀ k ∈ ks, k ∈ vs)
    (qt : ∀ S ρ D σ H v d ρ', Fm C S ρ D σ H → Dt S H v d → gg d ρ = some ρ' → ∀ Q : St → Hp → Prop, (∀ σ', Fm C S ρ' D σ' H → Off ks ρ ρ' σ σ' → Q σ' H) → t v σ H Q)
    (qi : RdT C E0 tt ga) (qe : RdE C E0 te fa) (qv : RdE C E0 tv fb) (F : Fm C S ρ D σ H) (hJ : ItOk S H ds J) (hl : ds.length < 10000000) (hno : Ev.noOwn ρ vs = true) (hr : Ev.dcLoop (wipeE ρ vs) gg ga fa fb [] ds D = .ok ys D2) (n : H p = none)
    (q : ∀ vs' H', Fm C (p :: S) ρ D2 σ H' → Kq C S H H' → H' p = some (.dK vs') → DtK (p :: S) H' vs' ys → Q (.ref p) H') :
    ∃ W : Nat → Nat → Hp → Prop, (∃ m, W 0 m (upd H p (.dK []))) ∧ ∀ i m H, W i m H →
      (J.stop i H ∧ Q (.ref p) H) ∨ (J.go i H ∧ ∃ Nx : Hp → Prop, (∀ H', Nx H' → ∃ m', m' < m ∧ W (i + 1) m' H') ∧ ∀ x H', J.yld i H x H' → t x (L2.wipe σ vs) H' fun σ2 H2 => L2.wipe σ2 vs = L2.wipe σ vs ∧ tt σ2 H2 fun b H3 =>
        if b = true then te σ2 H3 fun y H4 => tv σ2 H4 fun z H5 => ∃ kvs k, y = kV k ∧ H5 p = some (.dK kvs) ∧ kvs.length < sizeLine ∧ Nx (upd H5 p (.dK (L2.putK kvs k z))) else Nx H3) := by
  have F0 : Fm C (p :: S) ρ D σ (upd H p (.dK [])) := F.newS n
  have np : p ∉ S := fun m => F.dom p m n
  have nch : p ∉ C.ch := fun m => np (F.base p (.inl m))
  have nU : p ∉ C.U := fun m => np (F.base p (.inr m))
  have x0 : Ext S H (p :: S) (upd H p (.dK [])) := ⟨Kp.new n, fun b m => (List.mem_cons.mp m).elim (fun z => .inr (z ▸ n)) .inl⟩
  -- a list that only we hold may be written
  have wr : ∀ {ρ' : Env} {D' : Dw} {σ' : St} {H1 : Hp} {acc us : List (Key × V)}, Fm C (p :: S) ρ' D' σ' H1 → H1 p = some (.dK acc) → (∀ (j : Nat) (u : T), ρ'[j]? = some (some u) → own u = true → σ'[j]? ≠ some (some (V.ref p))) → Fm C (p :: S) ρ' D' σ' (upd H1 p (.dK us)) ∧ Kp (p :: S) H1 (upd H1 p (.dK us)) := by
    intro ρ' D' σ' H1 acc us F1 hp1 hno
    have kS : Kp (p :: S) H1 (upd H1 p (.dK us)) := Kp.refl.set List.mem_cons_self fun u hu => by rw [hp1] at hu; cases hu; rfl
    have stay : ∀ {b : Addr} {u : HO}, b ≠ p → H1 b = some u → upd H1 p (.dK us) b = some u := fun n q => by rw [upd_ne n]; exact q
    refine ⟨⟨F1.len, fun j u ej => ?_, F1.uniq, F1.base, fun b m => ?_, ?_, ⟨fun P m => ?_, fun q m => ?_⟩, ?_, F1.drc⟩, kS⟩
    · obtain ⟨v, s1, h1⟩ := F1.slot j u ej
      refine ⟨v, s1, h1.mk kS (fun _ m => .inl m) fun ou a ea m => ⟨m, fun ob eb => stay (fun z => ?_) eb⟩⟩
      subst z
      rw [ea] at s1
      exact hno j u ej ou s1
    · by_cases hb : b = p
      · subst hb; rw [upd_same]; exact (fun z => by cases z)
      · rw [upd_ne hb]; exact F1.dom b m
    · exact fun x ob ex hx => by
        have := F1.kp x ob ex hx
        exact stay (fun z => by rw [z, F.ch0 n] at ex; cases ex) this
    · obtain ⟨ps, ep, tr⟩ := F1.tb.g P m
      exact ⟨ps, stay (fun z => nch (z ▸ List.mem_append_left _ (List.mem_append_left _ m))) ep, tr⟩
    · obtain ⟨ps, ep, tr, q2⟩ := F1.tb.q q m
      refine ⟨ps, stay (fun z => nch (z ▸ List.mem_append_left _ (List.mem_append_right _ (List.mem_map.mpr ⟨q, m, rfl⟩)))) ep, tr, fun pos cv z => ?_⟩
      obtain ⟨cc, rfl, y⟩ := q2 pos cv z
      refine ⟨cc, rfl, stay (fun z => ?_) y⟩
      subst z
      rw [y] at hp1
      cases hp1
    · have hd := F1.dr
      unfold DrO at *
      split at hd
      · rename_i d w c ec
        have m1 : d ∈ C.ch := List.mem_append_right _ (by unfold Ct.dch; rw [ec]; simp)
        have m2 : w ∈ C.ch := List.mem_append_right _ (by unfold Ct.dch; rw [ec]; simp)
        exact ⟨stay (fun z => nch (z ▸ m1)) hd.dr, stay (fun z => nch (z ▸ m2)) hd.wi, stay (fun z => F1.drc d w c ec (z ▸ F.ch0 n)) hd.ce, hd.lw, hd.lc, hd.wc⟩
      · trivial
  refine ⟨fun i m H1 => ∃ D1 acc xs, Fm C (p :: S) ρ D1 σ H1 ∧ Kp C.ch H H1 ∧ Ext S H (p :: S) H1 ∧ H1 p = some (.dK acc) ∧ DtK (p :: S) H1 acc xs ∧ i ≤ ds.length ∧ xs.length ≤ i ∧ m = ds.length - i ∧ Ev.dcLoop (wipeE ρ vs) gg ga fa fb xs (ds.drop i) D1 = .ok ys D2,
    ⟨_, D, [], [], F0, Kp.new n, x0, upd_same, .nil, Nat.zero_le _, Nat.le_refl _, rfl, hr⟩, ?_⟩
  rintro i m H1 ⟨D1, acc, xs, F1, c1, x1, hp1, hacc, hi, hxs, rfl, hz⟩
  obtain ⟨hgo, hstop⟩ := hJ i (p :: S) H1 x1 F1.dom
  by_cases hlt : i < ds.length
  · have hd : ds[i]? = some ds[i] := List.getElem?_eq_getElem hlt
    have hdrop : ds.drop i = ds[i] :: ds.drop (i + 1) := List.drop_eq_getElem_cons hlt
    generalize ds[i] = d at hd hdrop
    obtain ⟨hg1, hy⟩ := hgo d hd
    rw [hdrop] at hz
    unfold Ev.dcLoop at hz
    refine .inr ⟨hg1, fun H2 => ∃ D3 acc xs', Fm C (p :: S) ρ D3 σ H2 ∧ Kp C.ch H H2 ∧ Ext S H (p :: S) H2 ∧ H2 p = some (.dK acc) ∧ DtK (p :: S) H2 acc xs' ∧ xs'.length ≤ i + 1 ∧ Ev.dcLoop (wipeE ρ vs) gg ga fa fb xs' (ds.drop (i + 1)) D3 = .ok ys D2, ?_, fun x H2 hx => ?_⟩
    · rintro H2 ⟨D3, acc2, xs2, F2, c2, x2, hp2, h2, hl2, hz2⟩
      exact ⟨_, by omega, D3, acc2, xs2, F2, c2, x2, hp2, h2, hlt, hl2, rfl, hz2⟩
    · obtain ⟨k2, hx2⟩ := hy x H2 hx
      have F2 := F1.grow k2
      have x2 : Ext S H (p :: S) H2 := x1.trans (Ext.of k2.of)
      have hp2 : H2 p = some (.dK acc) := k2 p _ hp1 (.inr List.not_mem_nil)
      cases hgg : gg d (wipeE ρ vs) with
      | none => rw [hgg] at hz; cases hz
      | some ρ1 =>
        rw [hgg] at hz
        refine qt (p :: S) (wipeE ρ vs) D1 (L2.wipe σ vs) H2 x d ρ1 (F2.wipe vs) hx2 hgg _ fun σ2 F3 ho => ⟨wipe_eq (by rw [ho.len, wipe_length]) ho.at_ hks, ?_⟩
        have noown : ∀ (j : Nat) (u : Fx.T), ρ1[j]? = some (some u) → own u = true → σ2[j]? ≠ some (some (V.ref p)) := fun j u e o s => by
          obtain ⟨e1, n1⟩ := ho.own j u e o
          obtain ⟨e2, n2⟩ := wipeE_some e1
          rw [ho.at_ j n1, wipe_off n2] at s
          obtain ⟨a, ea, ma⟩ := F.ownS e2 o s
          cases ea
          exact np ma
        have T := qi (p :: S) ρ1 D1 σ2 H2 F3
        cases hb : ga ρ1 D1 with
        | stuck => simp only [hb] at hz; cases hz
        | err c fs D3 => simp only [hb] at hz; cases hz
        | ok bb D3 =>
          simp only [hb] at hz
          rw [hb] at T
          refine T _ fun H3 k3 F4 => ?_
          have x3 := x2.trans (Ext.of k3.s)
          have back : ∀ {D' : Dw} {H' : Hp}, Fm C (p :: S) ρ1 D' σ2 H' → Ext (p :: S) H2 (p :: S) H' → Fm C (p :: S) ρ D' σ H' := fun {D' H'} F' x' => by
            refine ⟨F.len, fun j t e => ?_, F.uniq, F'.base, F'.dom, F'.kp, F'.tb, F'.dr, F'.drc⟩
            obtain ⟨v, s1, h1⟩ := F2.slot j t e
            by_cases ot : own t = true
            · have nj : j ∉ vs := fun m => by
                have := List.all_eq_true.mp hno j m
                rw [e] at this
                simp only [ot, Bool.not_true] at this
                cases this
              have nk : j ∉ ks := fun m => nj (hks j m)
              have e1 : ρ1[j]? = some (some t) := by
                rw [ho.keep j nk]
                exact (wipeE_off nj).trans e
              obtain ⟨v2, s2, h2⟩ := F'.slot j t e1
              rw [ho.at_ j nk, wipe_off nj] at s2
              exact ⟨v2, s2, h2⟩
            · exact ⟨v, s1, h1.mk x'.kp (fun _ m => .inl m) fun z => absurd z ot⟩
          cases bb with
          | false =>
            simp only [Bool.false_eq_true, if_false]
            exact ⟨D3, acc, xs, back F4 (Ext.of k3.s), (c1.trans k2.of).trans k3.c, x3, k3.c p _ hp2 (.inr nch), (hacc.kp k2.of).kp k3.s, by omega, hz⟩
          | true =>
            simp only [if_true]
            have T2 := qe (p :: S) ρ1 D3 σ2 H3 F4
            cases hf : fa ρ1 D3 with
            | stuck => simp only [hf] at hz; cases hz
            | err c fs D4 => simp only [hf] at hz; cases hz
            | ok y D4 =>
              simp only [hf] at hz
              rw [hf] at T2
              refine T2 _ fun yv H4 k4 F5 hy5 => ?_
              have T3 := qv (p :: S) ρ1 D4 σ2 H4 F5
              cases hf2 : fb ρ1 D4 with
              | stuck => simp only [hf2] at hz; cases hz
              | err c fs D5 => simp only [hf2] at hz; cases hz
              | ok z D5 =>
                simp only [hf2] at hz
                rw [hf2] at T3
                refine T3 _ fun zv H5 k5 F7 hz5 => ?_
                cases hkk : toKey y with
                | none => simp only [hkk] at hz; cases hz
                | some kk =>
                  simp only [hkk] at hz
                  have hyv : yv = kV kk := Sn.key (.dt hy5) hkk
                  have hp4 : H5 p = some (.dK acc) := k5.c p _ (k4.c p _ (k3.c p _ hp2 (.inr nch)) (.inr nch)) (.inr nch)
                  have x4 := (x3.trans (Ext.of k4.s)).trans (Ext.of k5.s)
                  have F6 : Fm C (p :: S) ρ D5 σ H5 := back F7 (((Ext.of k3.s).trans (Ext.of k4.s)).trans (Ext.of k5.s))
                  have hacc4 : DtK (p :: S) H5 acc xs := (((hacc.kp k2.of).kp k3.s).kp k4.s).kp k5.s
                  have noown0 : ∀ (j : Nat) (u : Fx.T), ρ[j]? = some (some u) → own u = true → σ[j]? ≠ some (some (V.ref p)) := fun j u e o s => by
                    obtain ⟨a, ea, ma⟩ := F.ownS e o s
                    cases ea
                    exact np ma
                  obtain ⟨F8, k7⟩ := wr (us := L2.putK acc kk zv) F6 hp4 noown0
                  refine ⟨acc, kk, hyv, hp4, by rw [hacc4.len]; exact bigM (by omega), D5, L2.putK acc kk zv, Sv.putK xs kk z, F8, ((((c1.trans k2.of).trans k3.c).trans k4.c).trans k5.c).put n, x4.trans (Ext.of k7), upd_same, (hacc4.put hz5).kp k7, ?_, hz⟩
                  have := putK_len xs kk z
                  omega
  · have : i = ds.length := by omega
    subst this
    refine .inl ⟨hstop rfl, ?_⟩
    rw [List.drop_length] at hz
    unfold Ev.dcLoop at hz
    cases hz
    exact q acc H1 F1 ⟨c1, x1.kp⟩ hp1 hacc
/-- a dict comprehension of one clause, its keys plain -/
theorem rd_dc {w : TI} {t : TG} {tt : TT} {te tv : TE} {it : EA} {gg : EG} {vs ks : List Nat} (hks : ∀ k ∈ ks, k ∈ vs)
    (qw : ∀ S ρ D σ H, Fm C S ρ D σ H → PostI C E S ρ σ H (it ρ D) (fun Q => w σ H Q))
    (qt : ∀ S ρ D σ H v d ρ', Fm C S ρ D σ H → Dt S H v d → gg d ρ = some ρ' → ∀ Q : St → Hp → Prop, (∀ σ', Fm C S ρ' D σ' H → Off ks ρ ρ' σ σ' → Q σ' H) → t v σ H Q)
    (qi : RdT C E0 tt ga) (qe : RdE C E0 te fa) (qv : RdE C E0 tv fb) : ∀ S ρ D σ H, Fm C S ρ D σ H → PostF C E S ρ σ H (Ev.dc vs it gg ga fa fb ρ D) (fun Q => tDc w t tt te tv vs σ H Q) := by
  intro S ρ D σ H F
  have A := qw S ρ D σ H F
  unfold Ev.dc
  cases hr : it ρ D with
  | stuck => trivial
  | err c fs D1 => rw [hr] at A; exact fun e Q => A e _
  | ok ds D1 =>
    rw [hr] at A
    simp only [bind_ok]
    split
    · rename_i hl
      cases hlp : Ev.dcLoop (wipeE ρ vs) gg ga fa fb [] ds D1 with
      | stuck => trivial
      | err c fs D2 => exact absurd hlp (dc_noerr ds [] D1)
      | ok ys D2 =>
        simp only [bind_ok]
        refine fun Q hq => A _ fun J H1 k1 F1 hJ => ?_
        refine fun p n => dc_run hks qt qi qe qv F1 hJ hl.1 hl.2 hlp n fun vs' H' F2 k2 hp hd => ?_
        exact hq _ H' (k1.trans k2) (F1.shrink F2) ⟨p, rfl, up_none F k1.s n (fun m => F1.dom p m n), F2, .inr (.inl ⟨vs', ys, rfl, hp, hd⟩)⟩
    · trivial
theorem vf_dc {tg iter elt vx : Expr} {ifs : List Expr} {scope : Scope} {it : EA} {gg : EG} {vs ks : List Nat} (hi : VI X C E tg iter it) (hg : VG (blkX X scope) C tg ks gg) (ht : VTs (blkX X scope) C E0 ifs ga) (he : VE (blkX X scope) C E0 elt fa) (hv : VE (blkX X scope) C E0 vx fb) (hks : ∀ k ∈ ks, k ∈ vs)
    (hp : ∀ i_ w t tt te tv, PI (X i_) tg iter w → (∀ (s : Shared) (H : Hp) (A : Addr) (cl : List (Str × Addr)) (fp : List Addr), PG ((X i_).blk s H scope (compEnvC scope cl A (X i_).env) fp) tg t) → (∀ (s : Shared) (H : Hp) (A : Addr) (cl : List (Str × Addr)) (fp : List Addr), PTs ((X i_).blk s H scope (compEnvC scope cl A (X i_).env) fp) ifs tt) →
      (∀ (s : Shared) (H : Hp) (A : Addr) (cl : List (Str × Addr)) (fp : List Addr), PE ((X i_).blk s H scope (compEnvC scope cl A (X i_).env) fp) elt te) →
      (∀ (s : Shared) (H : Hp) (A : Addr) (cl : List (Str × Addr)) (fp : List Addr), PE ((X i_).blk s H scope (compEnvC scope cl A (X i_).env) fp) vx tv) → PE (X i_) e (tDc w t tt te tv vs)) : VF X C E e (Ev.dc vs it gg ga fa fb) := by
  obtain ⟨w, pw, qw⟩ := hi.ex
  obtain ⟨t, pt, qt⟩ := hg.ex
  obtain ⟨tt, ptt, qi⟩ := ht.ex
  obtain ⟨te, pe, qe⟩ := he.ex
  obtain ⟨tv, pv', qv⟩ := hv.ex
  exact ⟨_, fun i => hp i w t tt te tv (pw i) (fun s H A cl fp => pt (i, s, H, A, cl, fp)) (fun s H A cl fp => ptt (i, s, H, A, cl, fp)) (fun s H A cl fp => pe (i, s, H, A, cl, fp)) (fun s H A cl fp => pv' (i, s, H, A, cl, fp)), rd_dc hks qw qt qi qe qv⟩
/-- a new list by a comprehension, on one line: name = [..] -/
theorem vs_dcO {i : Nat} {tg iter elt vx : Expr} {ifs : List Expr} {scope : Scope} {it : EA} {gg : EG} {ga : EB} {vs ks : List Nat} (hi : VI X C E tg iter it) (hg : VG (blkX X scope) C tg ks gg) (ht : VTs (blkX X scope) C E0 ifs ga) (he : VE (blkX X scope) C E0 elt fa) (hv : VE (blkX X scope) C E0 vx fb) (hks : ∀ k ∈ ks, k ∈ vs)
    (hp : ∀ i_ w t tt te tv, PI (X i_) tg iter w → (∀ (s : Shared) (H : Hp) (A : Addr) (cl : List (Str × Addr)) (fp : List Addr), PG ((X i_).blk s H scope (compEnvC scope cl A (X i_).env) fp) tg t) → (∀ (s : Shared) (H : Hp) (A : Addr) (cl : List (Str × Addr)) (fp : List Addr), PTs ((X i_).blk s H scope (compEnvC scope cl A (X i_).env) fp) ifs tt) →
      (∀ (s : Shared) (H : Hp) (A : Addr) (cl : List (Str × Addr)) (fp : List Addr), PE ((X i_).blk s H scope (compEnvC scope cl A (X i_).env) fp) elt te) →
      (∀ (s : Shared) (H : Hp) (A : Addr) (cl : List (Str × Addr)) (fp : List Addr), PE ((X i_).blk s H scope (compEnvC scope cl A (X i_).env) fp) vx tv) → PS (X i_) st (tAsg (tDc w t tt te tv vs) (gName i))) : VS X C E fr st (Sv.setO i (Ev.dc vs it gg ga fa fb)) := by
  obtain ⟨w, pw, qw⟩ := hi.ex
  obtain ⟨t, pt, qt⟩ := hg.ex
  obtain ⟨tt, ptt, qi⟩ := ht.ex
  obtain ⟨te, pe, qe⟩ := he.ex
  obtain ⟨tv, pv', qv⟩ := hv.ex
  refine ⟨_, fun i => hp i w t tt te tv (pw i) (fun s H A cl fp => pt (i, s, H, A, cl, fp)) (fun s H A cl fp => ptt (i, s, H, A, cl, fp)) (fun s H A cl fp => pe (i, s, H, A, cl, fp)) (fun s H A cl fp => pv' (i, s, H, A, cl, fp)), fun S ρ D σ H Dn F => ?_⟩
  show PostS C E fr S H Dn _ (tDc w t tt te tv vs σ H fun x H1 => Dn.nx (σ.set i (some x)) H1)
  refine PostF.bindS (rd_dc hks qw qt qi qe qv S ρ D σ H F) fun d D1 v H1 k1 F1 h1 => ?_
  cases q : Sv.ownT d with
  | none => trivial
  | some t =>
    obtain ⟨p, n, F2⟩ := h1.setO (i := i) F F1 q
    exact fun k => k _ _ H1 ⟨k1.s, fun b m => (List.mem_cons.mp m).elim (fun z => .inr (z ▸ n)) .inl⟩ F2
theorem vs_dcD {i : Nat} {tg iter elt vx : Expr} {ifs : List Expr} {scope : Scope} {it : EA} {gg : EG} {ga : EB} {vs ks : List Nat} (hi : VI X C E tg iter it) (hg : VG (blkX X scope) C tg ks gg) (ht : VTs (blkX X scope) C E0 ifs ga) (he : VE (blkX X scope) C E0 elt fa) (hv : VE (blkX X scope) C E0 vx fb) (hks : ∀ k ∈ ks, k ∈ vs)
    (hp : ∀ i_ w t tt te tv, PI (X i_) tg iter w → (∀ (s : Shared) (H : Hp) (A : Addr) (cl : List (Str × Addr)) (fp : List Addr), PG ((X i_).blk s H scope (compEnvC scope cl A (X i_).env) fp) tg t) → (∀ (s : Shared) (H : Hp) (A : Addr) (cl : List (Str × Addr)) (fp : List Addr), PTs ((X i_).blk s H scope (compEnvC scope cl A (X i_).env) fp) ifs tt) →
      (∀ (s : Shared) (H : Hp) (A : Addr) (cl : List (Str × Addr)) (fp : List Addr), PE ((X i_).blk s H scope (compEnvC scope cl A (X i_).env) fp) elt te) →
      (∀ (s : Shared) (H : Hp) (A : Addr) (cl : List (Str × Addr)) (fp : List Addr), PE ((X i_).blk s H scope (compEnvC scope cl A (X i_).env) fp) vx tv) → PS (X i_) st (tAsg (tDc w t tt te tv vs) (gName i))) : VS X C E fr st (Sv.set i (Ev.dc vs it gg ga fa fb)) := by
  obtain ⟨w, pw, qw⟩ := hi.ex
  obtain ⟨t, pt, qt⟩ := hg.ex
  obtain ⟨tt, ptt, qi⟩ := ht.ex
  obtain ⟨te, pe, qe⟩ := he.ex
  obtain ⟨tv, pv', qv⟩ := hv.ex
  refine ⟨_, fun i => hp i w t tt te tv (pw i) (fun s H A cl fp => pt (i, s, H, A, cl, fp)) (fun s H A cl fp => ptt (i, s, H, A, cl, fp)) (fun s H A cl fp => pe (i, s, H, A, cl, fp)) (fun s H A cl fp => pv' (i, s, H, A, cl, fp)), fun S ρ D σ H Dn F => ?_⟩
  show PostS C E fr S H Dn _ (tDc w t tt te tv vs σ H fun x H1 => Dn.nx (σ.set i (some x)) H1)
  exact PostF.bindS (rd_dc hks qw qt qi qe qv S ρ D σ H F) fun d D1 v H1 k1 F1 h1 k => k _ _ H1 (Ext.of k1.s) (F1.setD (h1.dt F))
end
end Fx
set_option Elab.async false
set_option linter.all false
set_option maxRecDepth 100000
set_option maxHeartbeats 2000000
namespace Fx
open PySem PySem.Spec PyProof.Rows L2 Kb
variable [Nm]
namespace Ev
/-- d.get(k), d.get(k, x) -/
def get1 (a b : EX) : EX := fun ρ D => (a ρ D).bind fun x D1 => match x with
  | .dict ds => if isErr ds = true then .stuck else (b ρ D1).bind fun y D2 => match lookD ds y with
    | some o => .ok (o.getD .none) D2
    | none => .stuck
  | _ => .stuck
def get2 (a b c : EX) : EX := fun ρ D => (a ρ D).bind fun x D1 => match x with
  | .dict ds => if isErr ds = true then .stuck else (b ρ D1).bind fun y D2 => (c ρ D2).bind fun z D3 => match lookD ds y with
    | some o => .ok (o.getD z) D3
    | none => .stuck
  | _ => .stuck
end Ev
section
variable {ι : Type} {X : ι → Cx} {C : Ct} {E : XK} {fr : Bool} {S : List Addr} {ρ : Env} {D : Dw} {σ : St} {H : Hp} {Dn : Ends}
variable {a b c e : Expr} {st : Stmt} {es : List Expr} {pos : Pos} {fa fb fc : EX} {ga gb : EB} {aa : EA} {f g : ST}
theorem PostE.wk {P : V → Hp → PyData → Prop} {r : R PyData} {t u : VK → Prop} (h : PostE C E S ρ σ H P r t) (i : ∀ Q, t Q → u Q) : PostE C E S ρ σ H P r u := by
  unfold PostE at *
  split
  · trivial
  · exact fun Q hq => i Q (h Q hq)
  · exact fun z Q => i Q (h z Q)
theorem Sn.isD {x : V} {ds : List (PyData × PyData)} (h : Sn S H x (.dict ds)) (ne : isErr ds = false) : ∃ a, x = .ref a ∧ IsD H a := by
  obtain ⟨a, rfl, ⟨kvs, e, _⟩ | ⟨kvs, r, _, e, _⟩ | ⟨c, r, rfl⟩⟩ := h.dct_inv
  · exact ⟨a, rfl, .inl ⟨kvs, .inl e⟩⟩
  · exact ⟨a, rfl, .inr ⟨kvs, .inl e⟩⟩
  · cases ne
theorem ve_get1 (hp : ∀ i_ ta tb, PE (X i_) a ta → PE (X i_) b tb → PE (X i_) e (tDGet1 ta tb)) (ha : VB X C E a fa) (hb : VB X C E b fb) : VE X C E e (Ev.get1 fa fb) := by
  obtain ⟨ta, pa, qa⟩ := ha.ex
  obtain ⟨tb, pb, qb⟩ := hb.ex
  refine ⟨_, (fun i_ => hp i_ ta tb (pa i_) (pb i_)), fun S ρ D σ H F => ?_⟩
  show PostE C E S ρ σ H _ _ (fun Q => ta σ H fun x H1 => ∃ a, x = .ref a ∧ IsD H1 a ∧ tb σ H1 fun y H2 => ∃ o, DGet H2 a y o ∧ Q (o.getD .non) H2)
  refine PostE.bind (qa S ρ D σ H F) fun d D1 x H1 k1 F1 h1 => ?_
  cases d with
  | dict ds =>
    dsimp only
    split
    · trivial
    rename_i ne
    obtain ⟨r, rfl, hD⟩ := (h1.sn F1).isD (by simpa using ne)
    have A : PostE C E S ρ σ H1 (fun v H' d => Dt S H' v d) ((fb ρ D1).bind fun y D2 => match lookD ds y with | some o => .ok (o.getD .none) D2 | none => .stuck) (fun Q => tb σ H1 fun y H2 => ∃ o, DGet H2 r y o ∧ Q (o.getD .non) H2) := by
      refine PostE.bind (qb S ρ D1 σ H1 F1) fun d2 D2 y H2 k2 F2 h2 => ?_
      cases q : lookD ds d2 with
      | none => trivial
      | some o =>
        intro Q hq
        obtain ⟨a', ov, e1, g, hc⟩ := ((h1.kp k2.s).sn F2).look (h2.sn F2) q
        cases e1
        refine ⟨ov, g, ?_⟩
        rcases hc with ⟨rfl, rfl⟩ | ⟨v, d, rfl, rfl, hd⟩
        · exact hq _ _ .refl F2 .non
        · exact hq _ _ .refl F2 hd
    exact A.wk fun Q q => ⟨r, rfl, hD, q⟩
  | _ => trivial
theorem ve_get2 (hp : ∀ i_ ta tb tc, PE (X i_) a ta → PE (X i_) b tb → PE (X i_) c tc → PE (X i_) e (tDGet2 ta tb tc)) (ha : VB X C E a fa) (hb : VB X C E b fb) (hc : VE X C E c fc) : VE X C E e (Ev.get2 fa fb fc) := by
  obtain ⟨ta, pa, qa⟩ := ha.ex
  obtain ⟨tb, pb, qb⟩ := hb.ex
  obtain ⟨tc, pc, qc⟩ := hc.ex
  refine ⟨_, (fun i_ => hp i_ ta tb tc (pa i_) (pb i_) (pc i_)), fun S ρ D σ H F => ?_⟩
  show PostE C E S ρ σ H _ _ (fun Q => ta σ H fun x H1 => ∃ a, x = .ref a ∧ IsD H1 a ∧ tb σ H1 fun y H2 => tc σ H2 fun z H3 => ∃ o, DGet H3 a y o ∧ Q (o.getD z) H3)
  refine PostE.bind (qa S ρ D σ H F) fun d D1 x H1 k1 F1 h1 => ?_
  cases d with
  | dict ds =>
    dsimp only
    split
    · trivial
    rename_i ne
    obtain ⟨r, rfl, hD⟩ := (h1.sn F1).isD (by simpa using ne)
    have A : PostE C E S ρ σ H1 (fun v H' d => Dt S H' v d) ((fb ρ D1).bind fun y D2 => (fc ρ D2).bind fun z D3 => match lookD ds y with | some o => .ok (o.getD z) D3 | none => .stuck) (fun Q => tb σ H1 fun y H2 => tc σ H2 fun z H3 => ∃ o, DGet H3 r y o ∧ Q (o.getD z) H3) := by
      refine PostE.bind (qb S ρ D1 σ H1 F1) fun d2 D2 y H2 k2 F2 h2 => ?_
      refine PostE.bind (qc S ρ D2 σ H2 F2) fun d3 D3 z H3 k3 F3 h3 => ?_
      cases q : lookD ds d2 with
      | none => trivial
      | some o =>
        intro Q hq
        obtain ⟨a', ov, e1, g, hc⟩ := (((h1.kp k2.s).kp k3.s).sn F3).look ((h2.kp k3.s).sn F3) q
        cases e1
        refine ⟨ov, g, ?_⟩
        rcases hc with ⟨rfl, rfl⟩ | ⟨v, d, rfl, rfl, hd⟩
        · exact hq _ _ .refl F3 h3
        · exact hq _ _ .refl F3 hd
    exact A.wk fun Q q => ⟨r, rfl, hD, q⟩
  | _ => trivial
/-! ### methods of texts -/
def gS1 (f : Str → PyData) : PyData → Option PyData
  | .str z => some (f z)
  | _ => none
theorem d_s1 {K : PySem.W.Frag} {f : Str → PyData} {fv : Str → V} (hf : ∀ z S H, Dt S H (fv z) (f z)) : DOp1 C (fun x H Q => tyV K "str" x H ∧ ∃ a, x = .str a ∧ ([] : List V) = [] ∧ True ∧ Q (fv a) H) (gS1 f) := by
  intro S H x d res hx hS hr Q hq
  unfold gS1 at hr
  split at hr
  · cases hr
    rw [hx.str_inv]
    exact ⟨rfl, _, rfl, rfl, trivial, hq _ _ .refl (hf _ _ _)⟩
  · cases hr
theorem ve_s1 {f : Str → PyData} {fv : Str → V} (hf : ∀ z S H, Dt S H (fv z) (f z)) (hp : ∀ i_ ta, PE (X i_) a ta → PE (X i_) e (tBM0 C.G.K "str" (fun x xs H Q => ∃ a, x = .str a ∧ xs = [] ∧ True ∧ Q (fv a) H) ta)) (ha : VB X C E a fa) : VE X C E e (Ev.u1 (gS1 f) fa) := ve_u1 (fun i ta pa => hp i ta pa) (d_s1 hf) ha
def gFind : PyData → PyData → Option PyData
  | .str a, .str b => some (.int (Txt.find a b))
  | _, _ => none
theorem d_find {K : PySem.W.Frag} : DOp2 C (fun x y H Q => tyV K "str" x H ∧ ∃ a b, x = V.str a ∧ [y] = [V.str b] ∧ Q (.int (Txt.find a b)) H) gFind := by
  intro S H x y d e res hx hy hS hr Q hq
  unfold gFind at hr
  split at hr
  · cases hr
    rw [hx.str_inv, hy.str_inv]
    exact ⟨rfl, _, _, rfl, rfl, hq _ _ .refl (.int _)⟩
  · cases hr
end
end Fx
set_option Elab.async false
set_option linter.all false
set_option maxRecDepth 100000
set_option maxHeartbeats 2000000
namespace Fx
open PySem PySem.Spec PyProof.Rows L2 Kb
variable [Nm]
/-! ### sorted, list of a dict with plain keys -/
def isMk : List (PyData × PyData) → Bool
  | (.bool true, .str _) :: _ => true
  | (.none, .none) :: _ => true
  | _ => false
def keysD : List (PyData × PyData) → List PyData := List.map (·.1)
theorem DtK.keys_int {S : List Addr} {H : Hp} : ∀ {kvs : List (Key × V)} {ds : List (PyData × PyData)} {ns : List Int}, DtK S H kvs ds → keysD ds = ns.map .int → kvs.map (·.1) = ns.map Sum.inl
  | _, _, [], .nil, _ => rfl
  | _, _, _ :: _, .nil, e => by cases e
  | _, _, [], .cons _ _, e => by cases e
  | _, _, n :: ns, .cons (k := k) h r, e => by
    have e : keyD k :: keysD _ = .int n :: ns.map .int := e
    injection e with e1 e2
    rw [List.map_cons, List.map_cons, DtK.keys_int r e2]
    cases k with
    | inl i => cases e1; rfl
    | inr x => cases e1
theorem DtK.keysL {S : List Addr} {H : Hp} : ∀ {kvs : List (Key × V)} {ds : List (PyData × PyData)}, DtK S H kvs ds → DtL S H (kvs.map fun kv => kV kv.1) (keysD ds)
  | _, _, .nil => .nil
  | _, _, .cons (k := k) h r => .cons (by cases k <;> constructor) (DtK.keysL r)
theorem Sn.dK {S : List Addr} {H : Hp} {x : V} {ds : List (PyData × PyData)} (h : Sn S H x (.dict ds)) (m : isMk ds = false) : ∃ a kvs, x = .ref a ∧ H a = some (.dK kvs) ∧ DtK S H kvs ds := by
  obtain ⟨a, rfl, ⟨kvs, e, hd⟩ | ⟨kvs, r, rfl, e, hd⟩ | ⟨c, r, rfl⟩⟩ := h.dct_inv
  · exact ⟨a, kvs, rfl, e, hd⟩
  · cases m
  · cases m
def gSortedU : PyData → Option PyData
  | .dict ds => if isMk ds = false ∧ ds.length < 64 then (intsOf (keysD ds)).map fun ns => .list ((sortI ns).map .int) else none
  | d => gSorted d
def rSortedDI : List V → Hp → VK → Prop := fun xs H Q => ∃ (a : Addr) (kvs : List (Key × V)) (ks : List Int), xs = [.ref a] ∧ Rd H a (.dK kvs) ∧ kvs.map (·.1) = ks.map Sum.inl ∧ ks.length < 64 ∧ ∀ (ys : List Int) (p : Addr), ys.Perm ks → ys.Pairwise (· ≤ ·) → H p = none → Q (.ref p) (upd H p (.lst (ys.map V.int)))
theorem cr_sortedU {X : Cx} (hc : X.calm = true) : CallR X (.builtin "sorted") (fun xs H Q => rSortedI X.K xs H Q ∨ rSortedDI xs H Q) := cr_sortedI.or (call_sortedDI hc)
section
variable {C : Ct}
theorem d_sortedU : DFr1 C (fun x H Q => rSortedI C.G.K [x] H Q ∨ rSortedDI [x] H Q) gSortedU := by
  intro S H x d res hx hS hr Q hq
  unfold gSortedU at hr
  split at hr
  · rename_i ds
    split at hr
    · rename_i hm
      cases q : intsOf (keysD ds) with
      | none => rw [q] at hr; cases hr
      | some ns =>
        rw [q] at hr
        cases hr
        obtain ⟨a, kvs, rfl, e, hd⟩ := hx.dK hm.1
        have ek := intsOf_eq q
        have hl : ns.length = ds.length := by
          have := congrArg List.length ek
          unfold keysD at this
          rw [List.length_map, List.length_map] at this
          exact this.symm
        refine .inr ⟨a, kvs, ns, rfl, .inl e, hd.keys_int ek, by omega, fun ys p hp hs n => ?_⟩
        rw [sorted_unique (hp.trans (sortI_perm ns).symm) hs (sortI_sorted ns)]
        exact hq p _ _ n rfl (DtL.ints _)
    · cases hr
  · exact .inl (d_sorted S H x d res hx hS hr Q hq)
def gListU : PyData → Option PyData
  | .dict ds => if isMk ds = false then some (.list (keysD ds)) else none
  | d => gList d
theorem d_listU : DFr1 C (fun x H Q => (∃ p ys, [x] = [V.ref p] ∧ (SqL C.G.K H p ys ∨ SqT C.G.K H p ys) ∧ ∀ l, H l = none → Q (.ref l) (upd H l (.lst ys))) ∨ (∃ (a : Addr) (kvs : List (Key × V)), [x] = [.ref a] ∧ Rd H a (.dK kvs) ∧ ∀ p, H p = none → Q (.ref p) (upd H p (.lst (kvs.map fun kv => kV kv.1))))) gListU := by
  intro S H x d res hx hS hr Q hq
  unfold gListU at hr
  split at hr
  · rename_i ds
    split at hr
    · rename_i hm
      cases hr
      obtain ⟨a, kvs, rfl, e, hd⟩ := hx.dK hm
      exact .inr ⟨a, kvs, rfl, .inl e, fun p n => hq p _ _ n rfl hd.keysL⟩
    · cases hr
  · exact .inl (d_list S H x d res hx hS hr Q hq)
end
end Fx
set_option Elab.async false
set_option linter.all false
set_option maxRecDepth 100000
set_option maxHeartbeats 2000000
namespace Fx
open PySem PySem.Spec PyProof.Rows L2 Kb
variable [Nm]
/-! ### defs that are handed functions or constants: one promise for each -/
/-- which arguments are data (none), which the k-th of the fixed values -/
abbrev Tp := List (Option Nat)
def nones : Tp → Nat
  | [] => 0
  | none :: t => nones t + 1
  | some _ :: t => nones t
def fillV (fv : Nat → V) : Tp → List V → List V
  | [], _ => []
  | some k :: t, us => fv k :: fillV fv t us
  | none :: t, u :: us => u :: fillV fv t us
  | none :: _, [] => []
def fillE : Tp → List PyData → Env
  | [], _ => []
  | some k :: t, ds => some (.fn k) :: fillE t ds
  | none :: t, d :: ds => some (.d d) :: fillE t ds
  | none :: _, [] => []
theorem fillV_len (fv : Nat → V) : ∀ (t : Tp) (us : List V), us.length = nones t → (fillV fv t us).length = t.length
  | [], _, _ => rfl
  | some k :: t, us, h => congrArg (· + 1) (fillV_len fv t us h)
  | none :: t, u :: us, h => congrArg (· + 1) (fillV_len fv t us (Nat.succ.inj h))
  | none :: t, [], h => by cases h
theorem fillE_len : ∀ (t : Tp) (ds : List PyData), ds.length = nones t → (fillE t ds).length = t.length
  | [], _, _ => rfl
  | some k :: t, us, h => congrArg (· + 1) (fillE_len t us h)
  | none :: t, u :: us, h => congrArg (· + 1) (fillE_len t us (Nat.succ.inj h))
  | none :: t, [], h => by cases h
theorem fill_slot {C : Ct} {S : List Addr} {H : Hp} : ∀ (tp : Tp) {us : List V} {ds : List PyData}, DtL S H us ds → ds.length = nones tp → ∀ (i : Nat) (t : T), (fillE tp ds)[i]? = some (some t) → own t = false ∧ ∃ v, (fillV C.G.fv tp us)[i]? = some v ∧ Rt C S H v t
  | [], _, _, _, _, i, t, e => by cases i <;> cases e
  | some k :: tp, _, _, h, l, 0, t, e => by cases e; exact ⟨rfl, _, rfl, rfl⟩
  | some k :: tp, _, _, h, l, i + 1, t, e => fill_slot tp h l i t e
  | none :: tp, _, _, .cons h r, l, 0, t, e => by cases e; exact ⟨rfl, _, rfl, h⟩
  | none :: tp, _, _, .cons h r, l, i + 1, t, e => fill_slot tp r (Nat.succ.inj l) i t e
  | none :: tp, _, _, .nil, l, _, _, _ => by cases l
def envT (m : Nat) (tp : Tp) (ds : List PyData) : Env := fillE tp ds ++ List.replicate (m - tp.length) none
def spT (G : Gt) (tp : Tp) (F : List PyData → Dw → R PyData) : Sp := fun vs H Q _ => ∃ (U : List Addr) (ds : List PyData) (D : Dw) (us : List V),
  vs = fillV G.fv tp us ∧ ds.length = nones tp ∧ (∀ a, a ∈ (Ct.mk G none U H).ch ∨ a ∈ U → H a ≠ none) ∧ TbOk G H ∧ DtL ((Ct.mk G none U H).ch ++ U) H us ds ∧
  match F ds D with
  | .ok r D' => ∀ v H', EndOk (Ct.mk G none U H) D' H' → Rv (Ct.mk G none U H) false H' v r → Q v H'
  | _ => False
def runT (m : Nat) (tp : Tp) (f : ST) (ds : List PyData) (D : Dw) : R PyData := match f (envT m tp ds) D with
  | .ok (.ret d, _) D' => .ok d D'
  | .ok (.nx, _) D' => .ok .none D'
  | _ => .stuck
theorem spT_len {G : Gt} {tp : Tp} {F : List PyData → Dw → R PyData} {vs : List V} {H : Hp} {Q : VK} {E : XK} (h : spT G tp F vs H Q E) : vs.length = tp.length := by
  obtain ⟨U, ds, D, us, rfl, h2, _, _, h3, _⟩ := h
  exact fillV_len _ _ _ (h3.len.trans h2)
section
variable {P : Program} {w : World} {K : PySem.W.Frag} {mg : Str → Option Value} {base : Heap}
theorem fm_startT {G : Gt} {U : List Addr} {H : Hp} {tp : Tp} {ds : List PyData} {us : List V} {D : Dw} {N : List Str} (hl : ds.length = nones tp) (hn : tp.length ≤ N.length)
    (hd : ∀ a, a ∈ (Ct.mk G none U H).ch ∨ a ∈ U → H a ≠ none) (ht : TbOk G H) (h : DtL ((Ct.mk G none U H).ch ++ U) H us ds) : Fm (Ct.mk G none U H) ((Ct.mk G none U H).ch ++ U) (envT N.length tp ds) D (L2.start N (fillV G.fv tp us)) H := by
  have lV : (fillV G.fv tp us).length = tp.length := fillV_len _ _ _ (h.len.trans hl)
  have lE : (fillE tp ds).length = tp.length := fillE_len _ _ hl
  have hs : L2.start N (fillV G.fv tp us) = (fillV G.fv tp us).map some ++ List.replicate (N.length - tp.length) none := by
    unfold L2.start
    rw [← lV]
  have noown : ∀ (i : Nat) (t : T), (envT N.length tp ds)[i]? = some (some t) → own t = false ∧ ∃ v, (L2.start N (fillV G.fv tp us))[i]? = some (some v) ∧ Rt (Ct.mk G none U H) ((Ct.mk G none U H).ch ++ U) H v t := fun i t e => by
    rw [hs]
    unfold envT at e
    by_cases hi : i < tp.length
    · rw [List.getElem?_append_left (by rw [lE]; exact hi)] at e
      obtain ⟨o, v, ev, r⟩ := fill_slot (C := Ct.mk G none U H) tp h hl i t e
      refine ⟨o, v, ?_, r⟩
      rw [List.getElem?_append_left (by rw [List.length_map, lV]; exact hi), List.getElem?_map, ev]
      rfl
    · rw [List.getElem?_append_right (by rw [lE]; omega)] at e
      have := List.eq_of_mem_replicate (List.mem_of_getElem? e)
      cases this
  exact {
    len := by rw [hs]; unfold envT; simp [lV, lE]
    slot := fun i t e => (noown i t e).2
    uniq := fun i j t u v _ e _ o _ _ _ => by rw [(noown i t e).1] at o; cases o
    base := fun a m => List.mem_append.mpr m
    dom := fun a m => hd a (List.mem_append.mp m)
    kp := .refl
    tb := ht
    dr := trivial
    drc := fun d w c e => by cases e }
theorem okT {x qual : Str} {st : Stmt} {fa : Addr} {fd : FuncData} {N ps : List Str} {k : Nat} {G : Gt} {tp : Tp} {f : ST} (F : Fun K x qual st fa fd) (S : FnScope N ps (defScope st)) (hps : ps.length = tp.length) (hN : tp.length ≤ N.length)
    (hb : ∀ (cdv : Value) (A : Around) (outer : List PySem.Env) (s : Shared) (H : Hp) (E : XK) (U : List Addr), Room k (A.deeper (envOfC qual (defScope st) s.heap.objs.size fa cdv)) →
      VSs (fun _ : Unit => (cxOf CX0 P w K mg base N qual (defScope st) fa cdv A outer s H E).nox) (Ct.mk G none U H) E0 false (defBody st) f) :
    FnOk P w K mg base CX0 (k + 1) fa fd ps (spT G tp (runT N.length tp f)) := by
  refine F.ok S (fun vs H Q E h => by rw [spT_len h, hps]) (fun cdv A outer s H vs Q E hr h => ?_)
  obtain ⟨U, ds, D, us, rfl, h2, h3, h4, h6, h7⟩ := h
  obtain ⟨t, p, q⟩ := (hb cdv A outer s H E U hr).ex
  refine ⟨t, p (), ?_⟩
  have B := q _ _ D _ H { nx := fun _ H' => Q .non H', rt := Q } (fm_startT (N := N) h2 hN h3 h4 h6)
  unfold runT at h7
  cases hf : f (envT N.length tp ds) D with
  | stuck => rw [hf] at h7; exact h7.elim
  | err c fs D' => rw [hf] at h7; exact h7.elim
  | ok pp D' =>
    rw [hf] at h7 B
    obtain ⟨o, ρ'⟩ := pp
    cases o with
    | nx => exact B fun S' σ' H' x F' => h7 .non H' F'.end (.non : Dt _ _ _ _)
    | ret d => exact B fun v H' e r => h7 v H' e r
    | brk => exact h7.elim
    | ct => exact h7.elim
theorem okTC {x qual : Str} {st : Stmt} {fa c : Addr} {fd : FuncData} {N ps : List Str} {k : Nat} {G : Gt} {tp : Tp} {f : ST} (F : Fun K x qual st fa fd) (hc : fd.code = .ref c) (S : FnScope N ps (defScope st)) (hps : ps.length = tp.length) (hN : tp.length ≤ N.length)
    (hb : ∀ (A : Around) (outer : List PySem.Env) (s : Shared) (H : Hp) (E : XK) (U : List Addr), Room k (A.deeper (envOfC qual (defScope st) s.heap.objs.size fa (.ref c))) →
      VSs (fun _ : Unit => (cxOf CX0 P w K mg base N qual (defScope st) fa (.ref c) A outer s H E).nox) (Ct.mk G none U H) E0 false (defBody st) f) :
    FnOk P w K mg base CX0 (k + 1) fa fd ps (spT G tp (runT N.length tp f)) := by
  refine okC0 F hc S (fun vs H Q E h => by rw [spT_len h, hps]) (fun A outer s H vs Q E hr h => ?_)
  obtain ⟨U, ds, D, us, rfl, h2, h3, h4, h6, h7⟩ := h
  obtain ⟨t, p, q⟩ := (hb A outer s H E U hr).ex
  refine ⟨t, p (), ?_⟩
  have B := q _ _ D _ H { nx := fun _ H' => Q .non H', rt := Q } (fm_startT (N := N) h2 hN h3 h4 h6)
  unfold runT at h7
  cases hf : f (envT N.length tp ds) D with
  | stuck => rw [hf] at h7; exact h7.elim
  | err c fs D' => rw [hf] at h7; exact h7.elim
  | ok pp D' =>
    rw [hf] at h7 B
    obtain ⟨o, ρ'⟩ := pp
    cases o with
    | nx => exact B fun S' σ' H' x F' => h7 .non H' F'.end (.non : Dt _ _ _ _)
    | ret d => exact B fun v H' e r => h7 v H' e r
    | brk => exact h7.elim
    | ct => exact h7.elim
end
/-! ### arguments, some of which are fixed -/
namespace Ev
def isFn (ρ : Env) (i k : Nat) : Bool := match ρ[i]? with
  | some (some (.fn j)) => decide (j = k)
  | _ => false
def grdA (i k : Nat) (r : EA) : EA := fun ρ D => if isFn ρ i k = true then r ρ D else .stuck
def grdE (i k : Nat) (r : EX) : EX := fun ρ D => if isFn ρ i k = true then r ρ D else .stuck
end Ev
section
variable {ι : Type} {X : ι → Cx} {C : Ct} {E : XK} {S : List Addr} {ρ : Env} {D : Dw} {σ : St} {H : Hp}
variable {a b c e : Expr} {es : List Expr} {pos p : Pos} {fa fb fc : EX} {aa : EA} {F : List PyData → Dw → R PyData} {x : Str}
theorem isFn_slot {i k : Nat} (F0 : Fm C S ρ D σ H) (h : Ev.isFn ρ i k = true) : σ[i]? = some (some (C.G.fv k)) := by
  unfold Ev.isFn at h
  split at h
  · rename_i j e
    have : j = k := of_decide_eq_true h
    subst this
    obtain ⟨v, s, r⟩ := F0.slot i _ e
    have r : v = C.G.fv j := r
    rw [s, r]
  · cases h
def PostAT (C : Ct) (E : XK) (S : List Addr) (ρ : Env) (σ : St) (H : Hp) (tp : Tp) (r : R (List PyData)) (t : (List V → Hp → Prop) → Prop) : Prop := match r with
  | .stuck => True
  | .ok ds D' => ∀ Q : List V → Hp → Prop, (∀ us H', Kq C S H H' → Fm C S ρ D' σ H' → DtL S H' us ds → Q (fillV C.G.fv tp us) H') → t Q
  | .err c fs D' => ErrP C E D' c fs → ∀ Q, t Q
structure VAT {ι : Type} (X : ι → Cx) (C : Ct) (E : XK) (es : List Expr) (tp : Tp) (f : EA) : Prop where
  ex : ∃ t, (∀ i, PA (X i) es t) ∧ ∀ S ρ D σ H, Fm C S ρ D σ H → PostAT C E S ρ σ H tp (f ρ D) (fun Q => t σ H Q)
theorem vat_nil : VAT X C E [] [] Ev.nil := ⟨_, fun _ => pa_nil, fun S ρ D σ H F Q hq => hq [] H .refl F .nil⟩
theorem vat_cons {tp : Tp} (ha : VE X C E a fa) (hr : VAT X C E es tp aa) (hs : ∀ i, starEach (a :: es) (X i).env = (false, eval a (X i).env) :: starEach es (X i).env := by intro _; rfl) : VAT X C E (a :: es) (none :: tp) (Ev.cons fa aa) := by
  obtain ⟨ta, pa, qa⟩ := ha.ex
  obtain ⟨tr, pr, qr⟩ := hr.ex
  refine ⟨_, (fun i => pa_cons (pa i) (pr i) (hs i)), fun S ρ D σ H F => ?_⟩
  show PostAT C E S ρ σ H _ ((fa ρ D).bind fun x D1 => (aa ρ D1).bind fun xs D2 => .ok (x :: xs) D2) (fun Q => ta σ H fun x H1 => tr σ H1 fun xs H2 => Q (x :: xs) H2)
  have A := qa S ρ D σ H F
  cases h1 : fa ρ D with
  | stuck => trivial
  | err c fs D1 => rw [h1] at A; exact fun e Q => A e _
  | ok d D1 =>
    rw [h1] at A
    simp only [bind_ok]
    have B := fun H1 (F1 : Fm C S ρ D1 σ H1) => qr S ρ D1 σ H1 F1
    cases h2 : aa ρ D1 with
    | stuck => trivial
    | err c fs D2 => rw [h2] at B; exact fun e Q => A _ fun x H1 k1 F1 b1 => B H1 F1 e _
    | ok ds D2 =>
      rw [h2] at B
      simp only [bind_ok]
      exact fun Q hq => A _ fun x H1 k1 F1 b1 => B H1 F1 _ fun us H2 k2 F2 b2 => hq (x :: us) H2 (k1.trans k2) F2 (.cons (b1.kp k2.s) b2)
/-- a value of the module -/
theorem vat_glob {tp : Tp} {k : Nat} {r : Addr} (hc : Xc X C) (hg : ∀ i, Gl (X i) x) (hm : C.G.mg x = some (.ref r)) (hk : C.G.fv k = .ref r) (hx : (x == Str.ofString "__debug__") = false) (hr : VAT X C E es tp aa) (hs : ∀ i, starEach (.Name x p :: es) (X i).env = (false, eval (.Name x p) (X i).env) :: starEach es (X i).env := by intro _; rfl) : VAT X C E (.Name x p :: es) (some k :: tp) aa := by
  obtain ⟨tr, pr, qr⟩ := hr.ex
  refine ⟨_, (fun i => pa_cons (pe_glob (v := .ref r) (hg i) (by rw [hc.mg i]; exact hm) rfl hx) (pr i) (hs i)), fun S ρ D σ H F => ?_⟩
  show PostAT C E S ρ σ H _ (aa ρ D) (fun Q => tr σ H fun xs H2 => Q (.ref r :: xs) H2)
  have A := qr S ρ D σ H F
  cases h1 : aa ρ D with
  | stuck => trivial
  | err c fs D1 => rw [h1] at A; exact fun e Q => A e _
  | ok ds D1 =>
    rw [h1] at A
    refine fun Q hq => A _ fun us H1 k1 F1 b1 => ?_
    have := hq us H1 k1 F1 b1
    unfold fillV at this
    rw [hk] at this
    exact this
/-- one that was handed on -/
theorem vat_loc {tp : Tp} {i k : Nat} (hp : ∀ i_, PE (X i_) a (tVar i)) (hr : VAT X C E es tp aa) (hs : ∀ i, starEach (a :: es) (X i).env = (false, eval a (X i).env) :: starEach es (X i).env := by intro _; rfl) : VAT X C E (a :: es) (some k :: tp) (Ev.grdA i k aa) := by
  obtain ⟨tr, pr, qr⟩ := hr.ex
  refine ⟨_, (fun i => pa_cons (hp i) (pr i) (hs i)), fun S ρ D σ H F => ?_⟩
  show PostAT C E S ρ σ H _ (if Ev.isFn ρ i k = true then aa ρ D else .stuck) (fun Q => ∃ v, σ[i]? = some (some v) ∧ tr σ H fun xs H2 => Q (v :: xs) H2)
  split
  · rename_i hf
    have hs := isFn_slot F hf
    have A := qr S ρ D σ H F
    cases h1 : aa ρ D with
    | stuck => trivial
    | err c fs D1 => rw [h1] at A; exact fun e Q => ⟨_, hs, A e _⟩
    | ok ds D1 =>
      rw [h1] at A
      exact fun Q hq => ⟨_, hs, A _ fun us H1 k1 F1 b1 => hq us H1 k1 F1 b1⟩
  · trivial
theorem rd_callT {t : TA} {tp : Tp} (q : ∀ S ρ D σ H, Fm C S ρ D σ H → PostAT C E S ρ σ H tp (aa ρ D) (fun Q => t σ H Q)) : RdE C E (tCall (spT C.G tp F) [] E0 t) (Ev.call0 (nones tp) F aa) := by
  intro S ρ D σ H F0
  show PostE C E S ρ σ H _ ((aa ρ D).bind fun ds D1 => if ds.length = nones tp then match F ds D1 with | .ok r _ => .ok r D1 | _ => .stuck else .stuck) (fun Q => t σ H fun vs H1 => spT C.G tp F (vs ++ []) H1 Q E0)
  have A := q S ρ D σ H F0
  cases h1 : aa ρ D with
  | stuck => trivial
  | err c fs D1 => rw [h1] at A; exact fun e Q => A e _
  | ok ds D1 =>
    rw [h1] at A
    simp only [bind_ok]
    split
    · rename_i hl
      cases hF : F ds D1 with
      | stuck => trivial
      | err c fs D2 => trivial
      | ok r D2 =>
        refine fun Q hq => A _ fun us H1 k1 F1 b1 => ?_
        obtain ⟨p1, p2, p3⟩ := call0_pre F1
        refine ⟨S, ds, D1, us, by rw [List.append_nil], hl, p1, F1.tb, b1.sub p2, ?_⟩
        rw [hF]
        intro v H' e rv
        obtain ⟨k, F2⟩ := p3 H' D2 e
        exact hq v H' (k1.trans ⟨k, k.mono fun b m => F1.base b (.inl m)⟩) F2 (back_ok (C' := Ct.mk C.G none S H1) F1 rfl (fun a m => tabs_ch a ((List.mem_append.mp m).elim id fun z => absurd z List.not_mem_nil)) rfl k F2 rv)
    · trivial
theorem ve_callT {tp : Tp} (h : VAT X C E es tp aa) (hp : ∀ i_ ta, PA (X i_) es ta → PE (X i_) e (tCall (spT C.G tp F) [] E0 ta)) : VE X C E e (Ev.call0 (nones tp) F aa) := let ⟨t, p, q⟩ := h.ex; ⟨_, fun i => hp i t (p i), rd_callT q⟩
/-- a function that was handed on, called -/
def setS (r : Addr) (sp : Sp) : Addr → Option Sp := fun g => if g = r then some sp else none
theorem heldS {P : Program} {w : World} {K : PySem.W.Frag} {mg : Str → Option Value} {base : Heap} {k : Nat} {r : Addr} {sp : Sp} {fd : FuncData} {ps : List Str} (G : FnOk P w K mg base CX0 k r fd ps sp) (kp : PySem.W.keepIn K (.ref r) = true) (b : Binds K fd ps []) : ∀ f s, setS r sp f = some s → Held P w K mg base k f s := fun f s h => by
  unfold setS at h
  split at h
  · rename_i e
    cases h
    subst e
    exact ⟨⟨fd, ps, G, kp, b⟩⟩
  · cases h
theorem ve_callL {i k n : Nat} {r : Addr} (hk : C.G.fv k = .ref r) (h : VA X C E es aa) (hp : ∀ i_ ta, PA (X i_) es ta → PE (X i_) e (tCallA i (setS r (spF C.G false false n F)) ta)) : VE X C E e (Ev.grdE i k (Ev.call0 n F aa)) := by
  obtain ⟨t, p, q⟩ := h.ex
  refine ⟨_, fun i => hp i t (p i), fun S ρ D σ H F0 => ?_⟩
  show PostE C E S ρ σ H _ (if Ev.isFn ρ i k = true then Ev.call0 n F aa ρ D else .stuck) (fun Q => ∃ f sp, σ[i]? = some (some (V.ref f)) ∧ setS r (spF C.G false false n F) f = some sp ∧ t σ H fun vs H1 => sp vs H1 Q E0)
  split
  · rename_i hf
    have hs := isFn_slot F0 hf
    rw [hk] at hs
    refine (rd_call0 (n := n) (F := F) (P := fun _ _ _ => True) q S ρ D σ H F0).wk fun Q hq => ⟨r, _, hs, if_pos rfl, ?_⟩
    have hq : t σ H fun vs H1 => spF C.G false false n F (vs ++ []) H1 Q E0 := hq
    simpa using hq
  · trivial
/-- a constant that was handed on: a in it -/
theorem ve_inL {i k : Nat} {d : PyData} {v : V} (hc : Xc X C) (hk : C.G.fv k = v) (g : Kc C.G.w C.G.K v d) (ha : VB X C E a fa) (hp : ∀ i_, PE (X i_) b (tVar i)) (hm : behindInMarks .In b = false) : VE X C E (.Compare a [.In] [b] pos) (Ev.grdE i k (Ev.u1 (fun e => gIn e d) fa)) := by
  obtain ⟨ta, pa, qa⟩ := ha.ex
  have o : ∀ i, OpR (X i) (compareOp .In) (fun x y H Q => rIn C.G.K false x y H Q ∨ rInK C.G.w C.G.K false x y H Q) := fun i => by
    have := (op_in_seq (X := X i)).or op_inK
    rw [hc.K i, hc.w i] at this
    exact this
  refine ⟨_, fun j => pe_cmpR (o j) (pa j) (hp j) hm, fun S ρ D σ H F0 => ?_⟩
  show PostE C E S ρ σ H _ (if Ev.isFn ρ i k = true then Ev.u1 (fun e => gIn e d) fa ρ D else .stuck) (fun Q => ta σ H fun x H1 => ∃ y, σ[i]? = some (some y) ∧ (rIn C.G.K false x y H1 Q ∨ rInK C.G.w C.G.K false x y H1 Q))
  split
  · rename_i hf
    have hs := isFn_slot F0 hf
    rw [hk] at hs
    exact (rd_u1 (r := fun x H Q => ∃ y, σ[i]? = some (some y) ∧ (rIn C.G.K false x y H Q ∨ rInK C.G.w C.G.K false x y H Q)) (fun S' H' x e res hx hS hr Q hq => ⟨v, hs, d_inC (C := C) g S' H' x e res hx hS hr Q hq⟩) qa) S ρ D σ H F0
  · trivial
end
end Fx
set_option Elab.async false
set_option linter.all false
set_option maxRecDepth 100000
set_option maxHeartbeats 2000000
namespace Fx
open PySem PySem.Spec PyProof.Rows L2 Kb
variable [Nm]
/-! ### range with a step -/
namespace Iv
def range3 (a b c : EX) : EA := fun ρ D => (a ρ D).bind fun x D1 => (b ρ D1).bind fun y D2 => (c ρ D2).bind fun z D3 => match x, y, z with
  | .int i, .int j, .int k => if k ≠ 0 ∧ k.natAbs < 1073741824 ∧ Builtin.Range.small i j k = true ∧ 0 ≤ Builtin.Range.rangeSize i j k then .ok ((List.range (Builtin.Range.rangeSize i j k).toNat).map fun (n : Nat) => PyData.int (i + (n : Int) * k)) D3 else .stuck
  | _, _, _ => .stuck
end Iv
section
variable {ι : Type} {X : ι → Cx} {C : Ct} {E : XK} {fr : Bool} {S : List Addr} {ρ : Env} {D : Dw} {σ : St} {H : Hp} {Dn : Ends}
variable {a b c e : Expr} {st : Stmt} {es : List Expr} {pos : Pos} {fa fb fc : EX} {ga gb : EB} {aa : EA} {f g : ST}
theorem itOk_rangeC {lo c : Int} {n : Nat} : ItOk S H ((List.range n).map fun (i : Nat) => PyData.int (lo + (i : Int) * c)) (Itc lo c n) := fun i S2 H2 xx dom2 => by
  refine ⟨fun d hd => ?_, fun hi => ?_⟩
  · rw [List.getElem?_map] at hd
    cases q : (List.range n)[i]? with
    | none => rw [q] at hd; cases hd
    | some j =>
      rw [q] at hd
      cases hd
      obtain ⟨hi, e⟩ := List.getElem?_eq_some_iff.mp q
      rw [List.getElem_range] at e
      subst e
      rw [List.length_range] at hi
      exact ⟨hi, fun y H3 ⟨h1, h2⟩ => by subst h1 h2; exact ⟨.refl, .int _⟩⟩
  · rw [List.length_map, List.length_range] at hi
    show n ≤ i
    omega
theorem vi_range3 {tg : Expr} (hp : ∀ i_ ta tb tc, PE (X i_) a ta → PE (X i_) b tb → PE (X i_) c tc → PI (X i_) tg e (iRng3 (tCons ta (tCons tb (tCons tc tNil))))) (h : VB X C E a fa) (h' : VB X C E b fb) (h2 : VB X C E c fc) : VI X C E tg e (Iv.range3 fa fb fc) := by
  obtain ⟨ta, pa, qa⟩ := h.ex
  obtain ⟨tb, pb, qb⟩ := h'.ex
  obtain ⟨tc, pc, qc⟩ := h2.ex
  refine ⟨_, (fun i_ => hp i_ ta tb tc (pa i_) (pb i_) (pc i_)), fun S ρ D σ H F => ?_⟩
  show PostI C E S ρ σ H _ (fun R => ta σ H fun x H1 => tb σ H1 fun y H2 => tc σ H2 fun z H3 => ∃ i j c n, [x, y, z] = [V.int i, V.int j, V.int c] ∧ RgC i j c n ∧ R (Itc i c n) H3)
  refine PostE.bindI (qa S ρ D σ H F) fun d D1 x H1 k1 F1 h1 => ?_
  refine PostE.bindI (qb S ρ D1 σ H1 F1) fun d2 D2 y H2 k2 F2 h2 => ?_
  refine PostE.bindI (qc S ρ D2 σ H2 F2) fun d3 D3 z H3 k3 F3 h3 => ?_
  split
  · rename_i i j k
    split
    · rename_i hl
      refine PostI.ok F3 itOk_rangeC fun Q hq => ⟨i, j, k, _, by rw [(((h1.kp k2.s).kp k3.s).sn F3).int_inv, ((h2.kp k3.s).sn F3).int_inv, (h3.sn F3).int_inv], ⟨hl.1, hl.2.1, hl.2.2.1, ?_⟩, hq⟩
      exact (Int.toNat_of_nonneg hl.2.2.2).symm
    · trivial
  · trivial
/-- [::-1] -/
def gRev : PyData → Option PyData
  | .list xs => some (.list xs.reverse)
  | _ => none
theorem DtL.rev {vs : List V} {xs : List PyData} (h : DtL S H vs xs) : DtL S H vs.reverse xs.reverse := by
  have : ∀ {vs : List V} {xs : List PyData}, DtL S H vs xs → ∀ {us : List V} {ys : List PyData}, DtL S H us ys → DtL S H (vs.reverse ++ us) (xs.reverse ++ ys) := by
    intro vs
    induction vs with
    | nil => intro xs h us ys h2; cases h; exact h2
    | cons v vs ih =>
      intro xs h us ys h2
      cases h with
      | cons h r =>
        rw [List.reverse_cons, List.reverse_cons, List.append_assoc, List.append_assoc]
        exact ih r (.cons h h2)
  have := this h (us := []) (ys := []) .nil
  rwa [List.append_nil, List.append_nil] at this
theorem d_rev : DFr1 C (fun x H Q => ∃ a xs, x = V.ref a ∧ SqL C.G.K H a xs ∧ ∀ p, H p = none → Q (.ref p) (upd H p (.lst xs.reverse))) gRev := by
  intro S H x d res hx hS hr Q hq
  unfold gRev at hr
  split at hr
  · cases hr
    obtain ⟨a, vs, rfl, ea, hd⟩ := hx.lst_inv
    exact ⟨a, vs, rfl, sqL ea, fun p n => hq p _ _ n rfl hd.rev⟩
  · cases hr
end
end Fx
set_option Elab.async false
set_option linter.all false
set_option maxRecDepth 100000
set_option maxHeartbeats 2000000
namespace Fx
open PySem PySem.Spec PyProof.Rows L2 Kb
variable [Nm]
namespace Ev
/-- a p b p' c p'' d, of whole numbers -/
def ch3 (p p' p'' : Int → Int → Bool) (a b c d : EX) : EX := fun ρ D => (a ρ D).bind fun x D1 => (b ρ D1).bind fun y D2 => match x, y with
  | .int i, .int j => if p i j = true then (c ρ D2).bind fun z D3 => match z with
      | .int k => if p' j k = true then (d ρ D3).bind fun u D4 => match u with
          | .int l => .ok (.bool (p'' k l)) D4
          | _ => .stuck
        else .ok (.bool false) D3
      | _ => .stuck
    else .ok (.bool false) D2
  | _, _ => .stuck
end Ev
section
variable {ι : Type} {X : ι → Cx} {C : Ct} {E : XK} {fr : Bool} {S : List Addr} {ρ : Env} {D : Dw} {σ : St} {H : Hp} {Dn : Ends}
variable {a b c d e : Expr} {st : Stmt} {es : List Expr} {pos : Pos} {fa fb fc fd : EX} {ga gb : EB} {aa : EA} {f g : ST}
theorem rd_ch3 {ta tb tc td : TE} {p p' p'' : Int → Int → Bool} (qa : RdB C E ta fa) (qb : RdB C E tb fb) (qc : RdB C E tc fc) (qd : RdB C E td fd) :
    RdE C E (tChain3 (rI0 fun i j => .bl (p i j)) (rI0 fun i j => .bl (p' i j)) (rI0 fun i j => .bl (p'' i j)) ta tb tc td) (Ev.ch3 p p' p'' fa fb fc fd) := by
  intro S ρ D σ H F
  show PostE C E S ρ σ H _ _ (fun Q => ta σ H fun x H1 => tb σ H1 fun y H2 => rI0 (fun i j => .bl (p i j)) x y H2 fun z H3 => ∃ k, z = .bl k ∧
    (if k = true then tc σ H3 fun w H4 => rI0 (fun i j => .bl (p' i j)) y w H4 fun z' H5 => ∃ k', z' = .bl k' ∧ (if k' = true then td σ H5 fun u H6 => rI0 (fun i j => .bl (p'' i j)) w u H6 Q else Q (.bl false) H5) else Q (.bl false) H3))
  refine PostE.bind (qa S ρ D σ H F) fun x D1 xv H1 k1 F1 h1 => ?_
  refine PostE.bind (qb S ρ D1 σ H1 F1) fun y D2 yv H2 k2 F2 h2 => ?_
  split
  · rename_i i j
    rw [((h1.kp k2.s).sn F2).int_inv, (h2.sn F2).int_inv]
    split
    · rename_i hp
      have A : PostE C E S ρ σ H2 (fun v H' d => Dt S H' v d) ((fc ρ D2).bind fun z D3 => match z with
          | .int k => if p' j k = true then (fd ρ D3).bind fun u D4 => match u with
              | .int l => .ok (.bool (p'' k l)) D4
              | _ => .stuck
            else .ok (.bool false) D3
          | _ => .stuck) (fun Q => tc σ H2 fun w H4 => rI0 (fun i j => .bl (p' i j)) (.int j) w H4 fun z' H5 => ∃ k', z' = .bl k' ∧ (if k' = true then td σ H5 fun u H6 => rI0 (fun i j => .bl (p'' i j)) w u H6 Q else Q (.bl false) H5)) := by
        refine PostE.bind (qc S ρ D2 σ H2 F2) fun z D3 zv H3 k3 F3 h3 => ?_
        split
        · rename_i k
          rw [(h3.sn F3).int_inv]
          split
          · rename_i hp'
            have B : PostE C E S ρ σ H3 (fun v H' d => Dt S H' v d) ((fd ρ D3).bind fun u D4 => match u with
              | .int l => .ok (.bool (p'' k l)) D4
              | _ => .stuck) (fun Q => td σ H3 fun u H6 => rI0 (fun i j => .bl (p'' i j)) (.int k) u H6 Q) := by
              refine PostE.bind (qd S ρ D3 σ H3 F3) fun u D4 uv H4 k4 F4 h4 => ?_
              split
              · rename_i l
                rw [(h4.sn F4).int_inv]
                exact fun Q hq => ⟨k, l, rfl, rfl, hq _ _ .refl F4 (.bl _)⟩
              · trivial
            exact B.wk fun Q q => ⟨j, k, rfl, rfl, true, by show V.bl (p' j k) = _; rw [hp'], q⟩
          · rename_i hp'
            exact fun Q hq => ⟨j, k, rfl, rfl, false, by show V.bl (p' j k) = _; rw [Bool.eq_false_iff.mpr hp'], hq _ _ .refl F3 (.bl _)⟩
        · trivial
      exact A.wk fun Q q => ⟨i, j, rfl, rfl, true, by show V.bl (p i j) = _; rw [hp], q⟩
    · rename_i hp
      exact fun Q hq => ⟨i, j, rfl, rfl, false, by show V.bl (p i j) = _; rw [Bool.eq_false_iff.mpr hp], hq _ _ .refl F2 (.bl _)⟩
  · trivial
theorem vt_ch3 {op op' op'' : CmpOp} {p p' p'' : Int → Int → Bool} (ho : ∀ i, OpR (X i) (compareOp op) (rI0 fun i j => .bl (p i j))) (ho' : ∀ i, OpR (X i) (compareOp op') (rI0 fun i j => .bl (p' i j))) (ho'' : ∀ i, OpR (X i) (compareOp op'') (rI0 fun i j => .bl (p'' i j))) (ha : VB X C E a fa) (hb : VB X C E b fb) (hc : VB X C E c fc) (hd : VB X C E d fd)
    (hm : lastMarks [op, op', op''] [b, c, d] = false) : VT X C E (.Compare a [op, op', op''] [b, c, d] pos) (Ev.tb (Ev.ch3 p p' p'' fa fb fc fd)) := by
  obtain ⟨ta, pa, qa⟩ := ha.ex
  obtain ⟨tb, pb, qb⟩ := hb.ex
  obtain ⟨tc, pc, qc⟩ := hc.ex
  obtain ⟨td, pd, qd⟩ := hd.ex
  exact ⟨_, fun i => pt_chain3 (ho i) (ho' i) (ho'' i) (pa i) (pb i) (pc i) (pd i) hm, rd_tb (rd_ch3 qa qb qc qd)⟩
end
end Fx
set_option Elab.async false
set_option linter.all false
set_option maxRecDepth 100000
set_option maxHeartbeats 2000000
namespace Fx
open PySem PySem.Spec PyProof.Rows L2 Kb
variable [Nm]
namespace Ev
/-- x.m(y) of a text -/
def sm1 (g : Str → PyData → Option PyData) (a b : EX) : EX := fun ρ D => (a ρ D).bind fun x D1 => match x with
  | .str z => (b ρ D1).bind fun y D2 => ofO (g z y) D2
  | _ => .stuck
end Ev
section
variable {ι : Type} {X : ι → Cx} {C : Ct} {E : XK} {fr : Bool} {S : List Addr} {ρ : Env} {D : Dw} {σ : St} {H : Hp} {Dn : Ends}
variable {a b c d e : Expr} {st : Stmt} {es : List Expr} {pos : Pos} {fa fb fc fd : EX} {ga gb : EB} {aa : EA} {f g : ST}
theorem ve_sm1 {r : V → List V → Hp → VK → Prop} {g : Str → PyData → Option PyData} (hg : ∀ z, DOp1 C (fun y H Q => r (.str z) [y] H Q) (g z)) (hp : ∀ i_ ta tb, PE (X i_) a ta → PE (X i_) b tb → PE (X i_) e (tBM C.G.K "str" r ta (tCons tb tNil))) (ha : VB X C E a fa) (hb : VB X C E b fb) : VE X C E e (Ev.sm1 g fa fb) := by
  obtain ⟨ta, pa, qa⟩ := ha.ex
  obtain ⟨tb, pb, qb⟩ := hb.ex
  refine ⟨_, (fun i_ => hp i_ ta tb (pa i_) (pb i_)), fun S ρ D σ H F => ?_⟩
  show PostE C E S ρ σ H _ _ (fun Q => ta σ H fun x H1 => tyV C.G.K "str" x H1 ∧ tb σ H1 fun y H2 => r x [y] H2 Q)
  refine PostE.bind (qa S ρ D σ H F) fun d D1 x H1 k1 F1 h1 => ?_
  cases d with
  | str z =>
    have hx := (h1.sn F1).str_inv
    subst hx
    have A : PostE C E S ρ σ H1 (fun v H' d => Dt S H' v d) ((fb ρ D1).bind fun y D2 => ofO (g z y) D2) (fun Q => tb σ H1 fun y H2 => r (.str z) [y] H2 Q) := by
      refine PostE.bind (qb S ρ D1 σ H1 F1) fun d2 D2 y H2 k2 F2 h2 => ?_
      exact ofO_post F2 fun res e Q hq => hg z S H2 y d2 res (h2.sn F2) F2.dom e Q hq
    exact A.wk fun Q q => ⟨rfl, q⟩
  | _ => trivial
def gFindS (z : Str) : PyData → Option PyData
  | .str y => some (.int (Txt.find z y))
  | _ => none
theorem d_findS (z : Str) : DOp1 C (fun y H Q => (fun (x : V) (xs : List V) H (Q : VK) => ∃ a b, x = V.str a ∧ xs = [V.str b] ∧ Q (V.int (Txt.find a b)) H) (.str z) [y] H Q) (gFindS z) := by
  intro S H y d res hy hS hr Q hq
  unfold gFindS at hr
  split at hr
  · cases hr
    rw [hy.str_inv]
    exact ⟨_, _, rfl, rfl, hq _ _ .refl (.int _)⟩
  · cases hr
def strsOf : List PyData → Option (List Str)
  | [] => some []
  | .str x :: r => (strsOf r).map (x :: ·)
  | _ => none
theorem strsOf_eq : ∀ {ds : List PyData} {xs : List Str}, strsOf ds = some xs → ds = xs.map .str
  | [], xs, h => by cases h; rfl
  | d :: r, xs, h => by
    cases d with
    | str x =>
      unfold strsOf at h
      cases q : strsOf r with
      | none => rw [q] at h; cases h
      | some ys =>
        rw [q] at h
        cases h
        rw [strsOf_eq q]; rfl
    | _ => cases h
theorem DtL.strs_inv {vs : List V} : ∀ {xs : List Str}, DtL S H vs (xs.map .str) → vs = xs.map V.str := by
  induction vs with
  | nil => intro xs h; cases xs with
    | nil => rfl
    | cons x r => cases h
  | cons v vs ih =>
    intro xs h
    cases xs with
    | nil => cases h
    | cons x r =>
      cases h with
      | cons h t => rw [h.str_inv, ih t]; rfl
def gJoin (z : Str) : PyData → Option PyData
  | .list ds => (strsOf ds).bind fun ys => if (ys.map (·.length)).sum + ys.length * z.length ≤ 16777216 then some (.str (Txt.join z ys)) else none
  | .tuple ds => (strsOf ds).bind fun ys => if (ys.map (·.length)).sum + ys.length * z.length ≤ 16777216 then some (.str (Txt.join z ys)) else none
  | _ => none
def rJoin (K : PySem.W.Frag) : V → List V → Hp → VK → Prop := fun x xs H Q => ∃ a p, ∃ ys : List Str, x = V.str a ∧ xs = [V.ref p] ∧ (SqL K H p (ys.map V.str) ∨ SqT K H p (ys.map V.str)) ∧ (ys.map (·.length)).sum + ys.length * a.length ≤ 16777216 ∧ Q (.str (Txt.join a ys)) H
theorem d_join (z : Str) : DOp1 C (fun y H Q => rJoin C.G.K (.str z) [y] H Q) (gJoin z) := by
  intro S H y d res hy hS hr Q hq
  unfold gJoin at hr
  split at hr
  · rename_i ds
    cases q : strsOf ds with
    | none => rw [q] at hr; cases hr
    | some ys =>
      rw [q] at hr
      simp only [Option.bind_some] at hr
      split at hr
      · rename_i hl
        cases hr
        rw [strsOf_eq q] at hy
        obtain ⟨a, vs, rfl, ea, hd⟩ := hy.lst_inv
        rw [hd.strs_inv] at ea
        exact ⟨z, a, ys, rfl, rfl, .inl (sqL ea), hl, hq _ _ .refl (.str _)⟩
      · cases hr
  · rename_i ds
    cases q : strsOf ds with
    | none => rw [q] at hr; cases hr
    | some ys =>
      rw [q] at hr
      simp only [Option.bind_some] at hr
      split at hr
      · rename_i hl
        cases hr
        rw [strsOf_eq q] at hy
        obtain ⟨a, vs, rfl, ea, hd⟩ := hy.tup_inv
        rw [hd.strs_inv] at ea
        exact ⟨z, a, ys, rfl, rfl, .inr (sqT ea), hl, hq _ _ .refl (.str _)⟩
      · cases hr
  · cases hr
end
end Fx
set_option Elab.async false
set_option linter.all false
set_option maxRecDepth 100000
set_option maxHeartbeats 2000000
namespace Fx
open PySem PySem.Spec PyProof.Rows L2 Kb
variable [Nm]
section
variable {ι : Type} {X : ι → Cx} {C : Ct} {E : XK} {fr : Bool} {S : List Addr} {ρ : Env} {D : Dw} {σ : St} {H : Hp} {Dn : Ends}
variable {a b c d e : Expr} {st : Stmt} {es : List Expr} {pos : Pos} {fa fb fc fd : EX} {ga gb : EB} {aa : EA} {f g : ST}
/-- isinstance(x, (T, U)) -/
def isiD2 (T U : String) (d : PyData) : Option PyData := if isErrD d = true then none else match kitB (tyD d) T with
  | some true => some (.bool true)
  | some false => (kitB (tyD d) U).map .bool
  | none => none
theorem kit2 {K : PySem.W.Frag} {t T U : String} {d : PyData} {r : PyData} (h : isiD2 T U d = some r) : ∃ b, r = .bool b ∧ PySem.W.kitAny K (.type (tyD d)) [.type T, .type U] = some b := by
  unfold isiD2 at h
  split at h
  · cases h
  split at h
  · rename_i q
    cases h
    exact ⟨true, rfl, kitAny_cons (b := true) (kit_ty q) (fun z => Bool.noConfusion z) fun _ => rfl⟩
  · rename_i q
    cases q2 : kitB (tyD d) U with
    | none => rw [q2] at h; cases h
    | some b =>
      rw [q2] at h
      cases h
      refine ⟨b, rfl, kitAny_cons (b := false) (kit_ty q) (fun _ => ?_) fun z => Bool.noConfusion z⟩
      cases b with
      | true => exact kitAny_cons (b := true) (kit_ty q2) (fun z => Bool.noConfusion z) fun _ => rfl
      | false => exact kitAny_cons (b := false) (kit_ty q2) (fun _ => rfl) fun z => Bool.noConfusion z
  · cases h
theorem ve_isi2 {T U : String} (ha : VB X C E a fa) (hp : ∀ i_ ta, PE (X i_) a ta → PE (X i_) e (tCB (rIsiT C.G.K) (tCons ta (tCons (tTup (tCons (tC (.ty T)) (tCons (tC (.ty U)) tNil))) tNil)))) : VE X C E e (Ev.u1 (isiD2 T U) fa) := by
  obtain ⟨ta, pa, qa⟩ := ha.ex
  refine ⟨_, (fun i_ => hp i_ ta (pa i_)), fun S ρ D σ H F => ?_⟩
  show PostE C E S ρ σ H _ _ (fun Q => ta σ H fun x H1 => ([V.ty T, V.ty U].length ≤ sizeLine ∧ ∀ p, H1 p = none → rIsiT C.G.K [x, .ref p] (upd H1 p (.tup [.ty T, .ty U])) Q))
  refine PostE.bind (qa S ρ D σ H F) fun d D1 x H1 k1 F1 h1 => ?_
  refine ofO_post F1 fun res e Q hq => ?_
  have ne : isErrD d = false := by
    unfold isiD2 at e
    split at e
    · cases e
    · rename_i q; simpa using q
  obtain ⟨b, rfl, hk⟩ := kit2 (K := C.G.K) (t := T) e
  refine ⟨big1000 (by show 2 ≤ 1000; omega), fun p n => ?_⟩
  exact ⟨x, p, _, _, _, b, rfl, upd_same, .cons (.ty _) (.cons (.ty _) .nil), ((h1.kp (Kp.new n)).sn (F1.grow (Kp.new n))).ty ne, hk, hq _ _ (Kp.new n) (.bl _)⟩
end
end Fx
set_option Elab.async false
set_option linter.all false
set_option maxRecDepth 100000
set_option maxHeartbeats 2000000
namespace Fx
open PySem PySem.Spec PyProof.Rows L2 Kb LamX NdefX
variable [Nm]
/-! ### a lambda handed to a def: the def runs over a base in which the lambda's cells stand still -/
def BX (b b' : Heap) : Prop := ∀ a o, b.get? a = some o → b'.get? a = some o
theorem BX.refl {b : Heap} : BX b b := fun _ _ e => e
theorem BX.trans {b c d : Heap} (h : BX b c) (k : BX c d) : BX b d := fun a o e => k a o (h a o e)
def reb (h : Heap) (H : Hp) (fs : List Addr) : Heap := hidT h (fun a => if a ∈ fs then some (.tup []) else H a)
theorem _root_.L2.Mod.grown {K : PySem.W.Frag} {mg : Str → Option Value} {b b' : Heap} (m : Mod K mg b) (x : BX b b') : Mod K mg b' :=
  ⟨m.kin.keeps x, m.glob.keeps x, let ⟨mb, h, e⟩ := m.blt; ⟨mb, h.keeps x, e⟩, m.nolimit.keeps x⟩
theorem funs_reb {h base base' : Heap} : ∀ {l : List PySem.Env}, h.FunFrames base l → (∀ b ∈ frs l, base'.get? b = none) → h.FunFrames base' l
  | [], _, _ => trivial
  | env :: r, ⟨hk, ⟨L, o, hf, hn, ho, hd⟩, hr⟩, k => by
    have e : frs (env :: r) = L :: frs r := by
      show List.filterMap (·.frame) (env :: r) = _
      rw [List.filterMap_cons, hf]
      rfl
    exact ⟨hk, ⟨L, o, hf, k L (by rw [e]; exact List.mem_cons_self), ho, hd⟩, funs_reb hr fun b hb => k b (by rw [e]; exact List.mem_cons_of_mem _ hb)⟩
section
variable {X : Cx} {pins : List (Addr × Obj)} {σ : L2.St} {H : Hp} {s : Shared}
theorem reb_get {b : Addr} {o : Obj} (e : s.heap.get? b = some o) (n : H b = none) (m : b ∉ frs X.stack) : (reb s.heap H (frs X.stack)).get? b = some o := hidT_get e (by rw [if_neg m]; exact n)
theorem of_reb {h : Heap} {fs : List Addr} {b : Addr} {o : Obj} (e : (reb h H fs).get? b = some o) : h.get? b = some o ∧ H b = none ∧ b ∉ fs := by
  obtain ⟨e1, e2⟩ := of_hidT e
  refine ⟨e1, ?_⟩
  by_cases m : b ∈ fs
  · rw [if_pos m] at e2; cases e2
  · rw [if_neg m] at e2; exact ⟨e2, m⟩
theorem reb_bx (I : Inv X pins σ H s) : BX X.base (reb s.heap H (frs X.stack)) := fun a o e => reb_get (I.bs a o e).1 (I.bs a o e).2 fun m => by
  have := (I.stack.mem m).1
  rw [e] at this
  cases this
theorem env0_reb (I : Inv X pins σ H s) : Env0 X.prog X.w X.K X.mg (reb s.heap H (frs X.stack)) X.A X.stack s H :=
  ⟨I.ok.frames, I.ok.mod.grown (reb_bx I), fun b o e => ⟨(of_reb e).1, (of_reb e).2.1⟩, Nat.le_of_eq (hidT_size _ _), funs_reb I.stack fun b m => by
    cases q : (reb s.heap H (frs X.stack)).get? b with
    | none => rfl
    | some o => exact absurd m (of_reb q).2.2, I.stkFree, I.hok, I.bare⟩
/-- the captured cells in a base -/
structure CapB (b : Heap) (cl : List (Str × Addr)) (fr : List Str) (vs : List V) : Prop where
  len : vs.length = fr.length
  all : ∀ y c, cl.lookup y = some c → ∃ v, b.IsCell c v
  inj : ∀ x y c, cl.lookup x = some c → cl.lookup y = some c → x = y
  has : ∀ (i : Nat) (y : Str), fr[i]? = some y → ∃ c, cl.lookup y = some c ∧ ∀ v, vs[i]? = some v → ∃ u, L2.RelV v u ∧ b.IsCell c (some u)
theorem CapB.at_ {b : Heap} {cl : List (Str × Addr)} {fr : List Str} {vs : List V} {h : Heap} {H : Hp} (C : CapB b cl fr vs) (e0 : ∀ a o, b.get? a = some o → h.get? a = some o ∧ H a = none) : CellsAt cl fr (vs.map some) h H where
  len := by rw [List.length_map]; exact C.len
  all := fun y c e => by
    obtain ⟨v, o, eo, d⟩ := C.all y c e
    exact ⟨(e0 c o eo).2, v, o, (e0 c o eo).1, d⟩
  inj := C.inj
  has := fun i y e => by
    obtain ⟨c, hc, hv⟩ := C.has i y e
    refine ⟨c, hc, fun v ev => ?_⟩
    rw [List.getElem?_map] at ev
    cases q : vs[i]? with
    | none => rw [q] at ev; cases ev
    | some w =>
      rw [q] at ev
      cases ev
      obtain ⟨u, r, o, eo, d⟩ := hv _ q
      exact ⟨u, r, o, (e0 c o eo).1, d⟩
theorem cap_of {cl : List (Str × Addr)} {fr : List Str} {js : List Nat} {vs : List V} (I : Inv X pins σ H s) (c : Caps X cl fr js) (hv : js.map (slotAt σ) = vs.map some) (hfn : ∀ x, X.fn x = true) : CapB (reb s.heap H (frs X.stack)) cl fr vs := by
  have C := cells_of I c
  have off : ∀ y a, cl.lookup y = some a → a ∉ frs X.stack := fun y a e m => by
    have e' := c.sub y a e
    have h1 := I.ok.cab y a (hfn y) e'
    rcases List.mem_cons.mp (I.stkSub _ m) with z | z
    · exact I.cne y a e' z
    · obtain ⟨_, o, eo, _⟩ := I.ok.funs.mem z
      exact absurd (Nat.lt_of_lt_of_le (Heap.lt_size eo) h1) (Nat.lt_irrefl _)
  have stay : ∀ {y a v}, cl.lookup y = some a → s.heap.IsCell a v → (reb s.heap H (frs X.stack)).IsCell a v := fun {y a v} e ⟨o, eo, d⟩ => ⟨o, reb_get eo (C.all y a e).1 (off y a e), d⟩
  have ln := C.len
  refine ⟨?_, fun y a e => ?_, C.inj, fun i y e => ?_⟩
  · rw [hv, List.length_map] at ln; exact ln
  · obtain ⟨_, v, z⟩ := C.all y a e
    exact ⟨v, stay e z⟩
  · obtain ⟨a, ha, h⟩ := C.has i y e
    refine ⟨a, ha, fun v ev => ?_⟩
    obtain ⟨u, r, z⟩ := h v (by rw [hv, List.getElem?_map, ev]; rfl)
    exact ⟨u, r, stay ha z⟩
/-- the lambda is made, and known from now on -/
theorem inv_lm {l : Lam} {o : Obj} {t' : Nat} {pm ctv : Value} (I : Inv X pins σ H s) (hl : l.f = s.heap.objs.size) (ho : o = PySem.W.kla_obj "<lambda>" l.q l.pr l.bd l.sc l.cl pm l.c ctv) :
    Inv X pins σ (upd H s.heap.objs.size (LmO l)) { s with heap := s.heap.push o, toks := t' } := by
  subst ho
  refine I.laid (a := s.heap.objs.size) (fun b u e => Heap.get?_push_of_some _ e) (Nat.le_refl _) ?_
  have e : (s.heap.push (PySem.W.kla_obj "<lambda>" l.q l.pr l.bd l.sc l.cl pm l.c ctv)).get? s.heap.objs.size = some (PySem.W.kla_obj "<lambda>" l.q l.pr l.bd l.sc l.cl pm l.c ctv) := Heap.get?_push_size _ rfl
  exact ⟨⟨pm, ctv, by rw [hl]; exact e⟩, ⟨_, e⟩, fun h1 h2 ⟨p, t, z⟩ st => ⟨p, t, by rw [hl] at z ⊢; exact st _ z⟩⟩
theorem lam_make3 {c P : Addr} {params : Arguments} {body : Expr} {scope : Scope} {pos : Pos} {E : Value → Shared → Prop} {Q : Value → Shared → Prop} (I : Inv X pins σ H s) (TB : TabB X.base X.mg c P) (hcode : X.env.code = .ref c)
    (hT : TabS H P (X.env.qual ++ "<lambda>")) (hdef : defaultsOf params X.env = ([], [])) (hfree : ∀ y ∈ scope.names, y.2 = .free → ∃ c, X.env.cells.lookup y.1 = some c)
    (h : ∀ (f c' : Addr) (H1 : Hp) (s' : Shared), Inv X pins σ H1 s' → ExtP P H H1 → TabS H1 P (X.env.qual ++ "<lambda>") →
      (∀ vs, H1 f = some (LmO ⟨f, c', X.env.qual ++ "<lambda>", params, body, scope, cloFrom X.env.cells scope.names [], vs⟩)) → H1 c' = some (CodeO c' (X.env.qual ++ "<lambda>")) → Q (.ref f) s') :
    wpAny (model X.prog X.w) X.A (eval (.Lambda params body scope pos) X.env) Q E s := by
  obtain ⟨ps, hP, ht, ha⟩ := id hT
  refine PySem.W.kla_eval hdef ?_
  have bP : s.heap.BuiltinsAt X.mg P := TB.bm.keeps I.bk
  have hP' : s.heap.get? P = some { cls := .none, data := .fields ps } := I.hok P _ hP
  cases hc : codeAmong pos ps.toList with
  | none =>
    refine PySem.W.kla_makeFunction (mg := X.mg) (c := c) (P := P) (ps := ps) (closure_ok hfree) I.ok.glob (I.mod.glob.keeps I.bk) hcode (TB.code.keeps I.bk) hP' ht hc TB.gP bP fun c' ctv h' tk hx hge hlt hrec htb => ?_
    obtain ⟨c2, oc, vs, t, e2, hoc, hd, hv⟩ := hrec
    cases e2
    have nC : H c' = none := I.hok.fresh hge
    have I1 := inv_table (t' := tk) (more := #[rawInt pos.line, rawInt pos.col, .ref c']) (h' := h') I hP (fun b o hb e => hx b o hb e) htb hge ⟨oc, vs, t, hoc, hd, hv⟩
    have hE : ExtP P H (upd (upd H P (.tbl (ps ++ #[rawInt pos.line, rawInt pos.col, .ref c']))) c' (CodeO c' (X.env.qual ++ "<lambda>"))) := fun b o n e => by
      rw [upd_ne (ne_of_none e nC), upd_ne n]
      exact e
    have eL : (ps ++ #[rawInt pos.line, rawInt pos.col, .ref c']).toList = ps.toList ++ [rawInt pos.line, rawInt pos.col, .ref c'] := by simp
    have T1 : TabS (upd (upd H P (.tbl (ps ++ #[rawInt pos.line, rawInt pos.col, .ref c']))) c' (CodeO c' (X.env.qual ++ "<lambda>"))) P (X.env.qual ++ "<lambda>") := by
      refine ⟨_, by rw [upd_ne (ne_of_none hP nC), upd_same], by rw [eL]; exact PySem.TriplesOk_snoc _ _ _ _ ht, fun p' cv hcv => ?_⟩
      rw [eL] at hcv
      rcases among_app _ ht hcv with z | z
      · obtain ⟨c0, e1, e2⟩ := ha p' cv z
        exact ⟨c0, e1, hE _ _ (fun z => by rw [z, hP] at e2; exact codeO_ne ps (Option.some.inj e2).symm) e2⟩
      · exact ⟨c', z, upd_same⟩
    have nF := I1.hok.fresh (Nat.le_refl _)
    have I2 := inv_lm (l := ⟨h'.objs.size, c', X.env.qual ++ "<lambda>", params, body, scope, cloFrom X.env.cells scope.names [], []⟩) (t' := tk) (pm := (X.mg "__name__").getD .none) (ctv := ctv) I1 rfl rfl
    refine h h'.objs.size c' _ _ I2 (fun b o n e => ?_) (T1.ext fun b o e => ?_) (fun vs => upd_same) ?_
    · have e1 := hE b o n e
      exact (upd_ne (ne_of_none e1 nF)).trans e1
    · exact (upd_ne (ne_of_none e nF)).trans e
    · exact (upd_ne (Nat.ne_of_lt hlt)).trans upd_same
  | some cv =>
    obtain ⟨c', e, hco⟩ := ha pos cv hc
    subst e
    refine PySem.W.kla_makeFunctionHit (mg := X.mg) (c := c) (P := P) (ps := ps) (closure_ok hfree) I.ok.glob (I.mod.glob.keeps I.bk) hcode (TB.code.keeps I.bk) hP' ht hc bP fun ctv h' tk hx hsz => ?_
    have I1 : Inv X pins σ H { s with heap := h', toks := tk } := I.kept hx
    have nF : H h'.objs.size = none := I1.hok.fresh (Nat.le_refl _)
    have I2 := inv_lm (l := ⟨h'.objs.size, c', X.env.qual ++ "<lambda>", params, body, scope, cloFrom X.env.cells scope.names [], []⟩) (t' := tk) (pm := (X.mg "__name__").getD .none) (ctv := ctv) I1 rfl rfl
    refine h h'.objs.size c' _ _ I2 (fun b o n e => ?_) (hT.ext fun b o e => ?_) (fun vs => upd_same) ?_
    · exact (upd_ne (ne_of_none e nF)).trans e
    · exact (upd_ne (ne_of_none e nF)).trans e
    · exact (upd_ne (ne_of_none hco nF)).trans hco
end
section
variable {X : Cx}
/-- the reading of a lambda, in one context -/
def tLm (X : Cx) (P : Addr) (params : Arguments) (body : Expr) (scope : Scope) : TE := fun σ H Q => TabS H P (X.env.qual ++ "<lambda>") ∧ ∀ (f c' : Addr) (H1 : Hp), ExtP P H H1 → TabS H1 P (X.env.qual ++ "<lambda>") →
  (∀ vs, H1 f = some (LmO ⟨f, c', X.env.qual ++ "<lambda>", params, body, scope, cloFrom X.env.cells scope.names [], vs⟩)) → H1 c' = some (CodeO c' (X.env.qual ++ "<lambda>")) → Q (.ref f) H1
theorem pe_lm {c P : Addr} {params : Arguments} {body : Expr} {scope : Scope} {pos : Pos} (TB : TabB X.base X.mg c P) (hcode : X.env.code = .ref c) (hdef : defaultsOf params X.env = ([], [])) (hfree : ∀ y ∈ scope.names, y.2 = .free → X.env.scope.names.lookup y.1 = some .cell ∨ X.env.scope.names.lookup y.1 = some .free) :
    PE X (.Lambda params body scope pos) (tLm X P params body scope) := by
  refine ⟨fun pins s σ H Q I h => ?_⟩
  obtain ⟨hT, h⟩ := h
  refine lam_make3 I TB hcode hT hdef (fun y hy e => (hfree y hy e).elim (fun z => I.ok.has _ (.inl z)) fun z => I.ok.has _ (.inr z)) fun f c' H1 s' I1 e1 e2 e3 e4 => ?_
  exact ⟨.ref f, H1, I1, rfl, h f c' H1 e1 e2 e3 e4⟩
/-- a call of a def, over the base as it is now -/
def tRe (X : Cx) (Fn : Heap → Sp → Prop) (cl : List (Str × Addr)) (fr : List Str) (js : List Nat) (t : TA) : TE := fun σ H Q => t σ H fun vs H1 => ∀ base', BX X.base base' → (∀ cs, js.map (slotAt σ) = cs.map some → CapB base' cl fr cs) → ∃ sp, Fn base' sp ∧ sp vs H1 Q E0
theorem pe_callRe {Fn : Heap → Sp → Prop} {cl : List (Str × Addr)} {fr : List Str} {js : List Nat} {k : Nat} {g : Addr} {fd : FuncData} {ps : List Str} {x : Str} {e : Expr} {es : List Expr} {p pos : Pos} {t : TA}
    (hF : ∀ b sp, Fn b sp → FnOk X.prog X.w X.K X.mg b CX0 k g fd ps sp) (hr : Room k X.A) (hg : Gl X x) (hm : X.mg x = some (.ref g)) (hk : PySem.W.keepIn X.K (.ref g) = true) (hb : L2.Binds X.K fd ps []) (cp : X.Ok → Caps X cl fr js) (hfn : ∀ x, X.fn x = true) (ha : PA X (e :: es) t)
    (hdb : (x == ("__debug__" : Str)) = false := by decide)
    (he : starEach (e :: es) X.env = (false, eval e X.env) :: starEach es X.env := by rfl) (hpl : (backTo pos (starEach es X.env)).any (·.1) = false := by rfl) :
    PE X (.Call (.Name x p) (e :: es) [] pos) (tRe X Fn cl fr js t) := by
  refine ⟨fun pins s σ H Q I h => ?_⟩
  have h : t σ H fun vs H1 => ∀ base', BX X.base base' → (∀ cs, js.map (slotAt σ) = cs.map some → CapB base' cl fr cs) → ∃ sp, Fn base' sp ∧ sp vs H1 Q E0 := h
  refine wpAny_Call_Name_kw (ld_glob I hg hm ?_ hdb)
  refine PySem.W.callWith_K (h₀ := X.base) I.ok.mod.kin hk (thn (ha.run pos pins s σ H _ I h) fun us s2 ⟨vs, H2, I2, r, q⟩ => ⟨I2.kIn, ?_⟩) he hpl
  obtain ⟨sp, hsp, q⟩ := q _ (reb_bx I2) (fun cs hcs => cap_of I2 (cp I2.ok) hcs hfn)
  have F := hF _ sp hsp
  have hl := F.len _ _ _ _ q
  have hul : us.length = ps.length := r.length.symm.trans hl
  have bd := hb s2 us I2.kIn (by rw [List.append_nil]; exact hul)
  rw [List.append_nil] at bd
  show wpAny _ _ (call (.ref g) us) _ _ _
  refine wpAny_call (codeAny_mono (F.run X.A X.stack s2 H2 ⟨us, []⟩ us vs Q E0 hr (env0_reb I2) bd r q) fun r s' hq => ?_)
  cases r with
  | error e => exact False.elim hq
  | ok fl =>
    cases fl with
    | ret u => exact I2.after hq
    | next => exact False.elim hq
    | brk => exact False.elim hq
    | cont => exact False.elim hq
end
/-! ### what a lambda promises -/
structure LmOk (P : Program) (w : World) (K : PySem.W.Frag) (mg : Str → Option Value) (base : Heap) (k : Nat) (l : Lam) (n : Nat) (sp : Sp) : Prop where
  len : ∀ vs H Q E, sp vs H Q E → vs.length = n
  run : ∀ (A : Around) (outer : List PySem.Env) (s : Shared) (H : Hp) (us : List Value) (vs : List V) (Q : VK) (E : XK), Room k A → Env0 P w K mg base A outer s H → H l.f = some (LmO l) → H l.c = some (CodeO l.c l.q) → Vals vs us → sp vs H Q E → codeAny (model P w) A (.call (.ref l.f) ⟨us, []⟩) (CR CX0 outer P w H s Q E) s
abbrev nfL (l : Lam) : NF := ⟨"<lambda>", l.q, l.pr, [], l.sc, l.cl, l.c⟩
theorem lm_at {P : Program} {w : World} {H : Hp} {h : Heap} {l : Lam} (hok : HOk P w H h) (e : H l.f = some (LmO l)) : ∃ pm ctv : Value, h.get? l.f = some (PySem.W.kla_obj "<lambda>" l.q l.pr l.bd l.sc l.cl pm l.c ctv) := by
  obtain ⟨z, _, _⟩ := hok l.f _ e
  exact z
section
variable {P : Program} {w : World} {K : PySem.W.Frag} {mg : Str → Option Value} {base : Heap} {N ps fr : List Str} {l : Lam} {k : Nat} {sp : Sp}
theorem lmok_of (Sc : NScope N ps fr l.sc) (cap : CapB base l.cl fr l.vs) (hb : ∀ (pm ctv : Value) (us : List Value), us.length = ps.length → bindArgs (PySem.W.kla_fn "<lambda>" l.q l.pr l.bd l.sc l.cl pm (.ref l.c) ctv) ⟨us, []⟩ = pure (ps.zip us)) (len : ∀ vs H Q E, sp vs H Q E → vs.length = ps.length)
    (hbody : ∀ (A : Around) (outer : List PySem.Env) (s : Shared) (H : Hp) (vs : List V) (Q : VK) (E : XK), Room k (A.deeper (envF (nfL l) l.f s.heap.objs.size)) → sp vs H Q E →
      ∃ t, PE (ncx CX0 P w K mg base N (nfL l) l.f A outer s H E) l.bd t ∧ t (startF N vs (l.vs.map some)) H Q) : LmOk P w K mg base (k + 1) l ps.length sp := by
  refine ⟨len, fun A outer s H us vs Q E hr e0 hf hc r hsp => ?_⟩
  have hl := len _ _ _ _ hsp
  have lim : s.heap.NoLimit := e0.mod.nolimit.keeps fun b o e => (e0.bs b o e).1
  obtain ⟨pm, ctv, ho⟩ := lm_at e0.hok hf
  refine PySem.W.kla_callFunE hr.depth ho rfl Sc.co Sc.gen rfl (codeO_at e0.hok hc) ?_
  rw [hb pm ctv us (by rw [← r.length]; exact hl)]
  refine wpAny_pure (wpAny_newFunctionEnv Sc.nocell (fun ⟨n, _⟩ hy => Sc.par n (List.of_mem_zip hy).1) (fun h₁ hns hsb => ⟨lim.fresh _ hsb, ?_⟩) Sc.kind)
  show codeAny _ _ (.expr l.bd (envF (nfL l) l.f s.heap.objs.size)) _ _
  have kp : ∀ b o, s.heap.get? b = some o → h₁.get? b = some o := fun b o e => hsb.extBut b o (Nat.ne_of_lt (Heap.lt_size e)) (Heap.get?_push_of_some _ e)
  obtain ⟨t, ht, hq⟩ := hbody A outer s H vs Q E (hr.deeper _) hsp
  have I : Inv (ncx CX0 P w K mg base N (nfL l) l.f A outer s H E) [] (startF N vs (l.vs.map some)) H { s with heap := h₁, toks := s.toks + (ps.zip us).length } := inv_startN (F := nfL l) Sc hr.hd e0 hl r (cap.at_ e0.bs) hns kp
  refine PySem.W.kla_codeExpr (wpAny_mono (ht.run [] _ _ H Q I hq) (fun v s' hs => ?_) fun e s' hs => hs)
  obtain ⟨v', H', J, rv, q⟩ := hs
  exact ⟨v', H', J.os, J.bare, J.base, J.hok, rv, q⟩
end
section
variable {X : Cx}
/-- x(..), x a name that holds the lambda l -/
def tCallLm (i : Nat) (l : Lam) (sp : Sp) (t : TA) : TE := fun σ H Q => σ[i]? = some (some (.ref l.f)) ∧ H l.f = some (LmO l) ∧ t σ H fun vs H1 => H1 l.f = some (LmO l) ∧ H1 l.c = some (CodeO l.c l.q) ∧ sp vs H1 Q E0
theorem pe_callLm {l : Lam} {k i n : Nat} {sp : Sp} {x : Str} {e : Expr} {es : List Expr} {p pos : Pos} {t : TA} (Fn : LmOk X.prog X.w X.K X.mg X.base k l n sp) (hr : Room k X.A) (hN : X.N[i]? = some x) (hv : Vis X.env.scope x) (ha : PA X (e :: es) t)
    (hd : (x == ("__debug__" : Str)) = false := by decide) (hcd : (x == ("__classdict__" : Str)) = false := by decide)
    (he : starEach (e :: es) X.env = (false, eval e X.env) :: starEach es X.env := by rfl) (hpl : (backTo pos (starEach es X.env)).any (·.1) = false := by rfl) :
    PE X (.Call (.Name x p) (e :: es) [] pos) (tCallLm i l sp t) := by
  refine ⟨fun pins s σ H Q I h => ?_⟩
  obtain ⟨hs, hf, ht⟩ := h
  refine wpAny_Call_Name_kw (thn ((pe_var (pos := p) hN hv hd hcd).run pins s σ H (fun v H1 => v = .ref l.f ∧ H1 = H) I ⟨.ref l.f, hs, rfl, rfl⟩) fun u s1 ⟨v, H1, I1, r1, q1⟩ => ?_)
  obtain ⟨ev, eH⟩ := q1
  subst ev
  rw [eH] at I1
  obtain rfl : u = Value.ref l.f := r1
  have at_ : ∀ {s2 : Shared} {H2 : Hp} {σ2 : L2.St}, Inv X pins σ2 H2 s2 → H2 l.f = some (LmO l) → PySem.W.FnAt l.f s2.heap := fun {s2 H2 σ2} I2 h1 => by
    obtain ⟨pm, ctv, z⟩ := lm_at I2.hok h1
    exact ⟨_, _, _, _, z⟩
  refine PySem.W.callWith_F (first := []) (at_ I1 hf) (thn (ha.run pos pins s1 σ H _ I1 ht) fun us s2 ⟨vs, H2, I2, r, h1, h2, q⟩ => ⟨at_ I2 h1, ?_⟩) he hpl
  show wpAny _ _ (call (.ref l.f) us) _ _ _
  refine wpAny_call (codeAny_mono (Fn.run X.A X.stack s2 H2 us vs Q E0 hr I2.env0 h1 h2 r q) fun r s' hq => ?_)
  cases r with
  | error e => exact False.elim hq
  | ok fl =>
    cases fl with
    | ret u => exact I2.after hq
    | next => exact False.elim hq
    | brk => exact False.elim hq
    | cont => exact False.elim hq
end
end Fx
set_option Elab.async false
set_option linter.all false
set_option maxRecDepth 100000
set_option maxHeartbeats 2000000
namespace Fx
open PySem PySem.Spec PyProof.Rows L2 Kb LamX NdefX
variable [Nm]
/-! ### lambdas by value -/
def spL (G : Gt) (n : Nat) (F : List PyData → List PyData → Dw → R PyData) : Sp := fun vs H Q _ => ∃ (U : List Addr) (ds : List PyData) (D : Dw) (cs : List PyData),
  ds.length = n ∧ (∀ a, a ∈ (Ct.mk G none U H).ch ∨ a ∈ U → H a ≠ none) ∧ TbOk G H ∧ DtL ((Ct.mk G none U H).ch ++ U) H vs ds ∧ DtL ((Ct.mk G none U H).ch ++ U) H G.lam.vs cs ∧
  match F cs ds D with
  | .ok r D' => ∀ v H', EndOk (Ct.mk G none U H) D' H' → Rv (Ct.mk G none U H) false H' v r → Q v H'
  | _ => False
def runL (m : Nat) (f : EX) (cs ds : List PyData) (D : Dw) : R PyData := f (env0 false m (ds ++ cs)) D
theorem spL_len {G : Gt} {n : Nat} {F : List PyData → List PyData → Dw → R PyData} {vs : List V} {H : Hp} {Q : VK} {E : XK} (h : spL G n F vs H Q E) : vs.length = n := by
  obtain ⟨U, ds, D, cs, h1, _, _, h4, _⟩ := h
  rw [h4.len, h1]
section
variable {P : Program} {w : World} {K : PySem.W.Frag} {mg : Str → Option Value} {base : Heap}
theorem ok_lam {N ps fr : List Str} {l : Lam} {k : Nat} {G : Gt} {fb : EX} (hG : G.lam = l) (Sc : NScope N ps fr l.sc) (hN : N.length = ps.length + fr.length) (cap : CapB base l.cl fr l.vs)
    (hb : ∀ (pm ctv : Value) (us : List Value), us.length = ps.length → bindArgs (PySem.W.kla_fn "<lambda>" l.q l.pr l.bd l.sc l.cl pm (.ref l.c) ctv) ⟨us, []⟩ = pure (ps.zip us))
    (hbody : ∀ (A : Around) (outer : List PySem.Env) (s : Shared) (H : Hp) (E : XK) (U : List Addr), Room k (A.deeper (envF (nfL l) l.f s.heap.objs.size)) → VE (fun _ : Unit => ncx CX0 P w K mg base N (nfL l) l.f A outer s H E) (Ct.mk G none U H) E0 l.bd fb) :
    LmOk P w K mg base (k + 1) l ps.length (spL G ps.length (runL N.length fb)) := by
  subst hG
  refine lmok_of Sc cap hb (fun vs H Q E h => spL_len h) (fun A outer s H vs Q E hr h => ?_)
  obtain ⟨U, ds, D, cs, h1, h2, h3, h4, h5, h6⟩ := h
  obtain ⟨t, p, q⟩ := (hbody A outer s H E U hr).ex
  refine ⟨t, p (), ?_⟩
  have l1 := h4.len
  have l2 := h5.len
  have l3 := cap.len
  have F0 := fm_start (G := G) (dd := none) (U := U) (H := H) (ds := ds ++ cs) (us := vs ++ G.lam.vs) (vs := vs ++ G.lam.vs) (D := D) (N := N) rfl (by rw [List.length_append]; omega) h2 h3 trivial (h4.app h5)
  have es : L2.start N (vs ++ G.lam.vs) = startF N vs (G.lam.vs.map some) := by
    unfold L2.start startF
    rw [List.map_append, List.append_assoc, List.length_append, List.length_map, Nat.sub_sub]
  rw [es] at F0
  have B := q _ _ D _ H F0
  unfold runL at h6
  have e0 : (none : Option (Addr × Addr × Addr)).isSome = false := rfl
  rw [e0] at B
  cases hf : fb (env0 false N.length (ds ++ cs)) D with
  | stuck => rw [hf] at h6; exact h6.elim
  | err c fs D' => rw [hf] at h6; exact h6.elim
  | ok r D' =>
    rw [hf] at h6 B
    exact B Q fun v H' k F' hd => h6 v H' F'.end (hd.sub fun b m => List.mem_append.mpr ((List.mem_append.mp m)))
end
/-! ### a def that is handed one, as its last argument -/
def envC (m : Nat) (ds cs : List PyData) : Env := ds.map (fun d => some (T.d d)) ++ ([some (T.cl cs)] ++ List.replicate (m - ds.length - 1) none)
def spC (G : Gt) (n : Nat) (F : List PyData → List PyData → Dw → R PyData) : Sp := fun vs H Q _ => ∃ (U : List Addr) (ds : List PyData) (D : Dw) (us : List V) (cs : List PyData),
  vs = us ++ [.ref G.lam.f] ∧ ds.length = n ∧ (∀ a, a ∈ (Ct.mk G none U H).ch ∨ a ∈ U → H a ≠ none) ∧ TbOk G H ∧ DtL ((Ct.mk G none U H).ch ++ U) H us ds ∧
  (H G.lam.f = some (LmO G.lam) ∧ H G.lam.c = some (CodeO G.lam.c G.lam.q) ∧ DtL ((Ct.mk G none U H).ch ++ U) H G.lam.vs cs) ∧
  match F cs ds D with
  | .ok r D' => ∀ v H', EndOk (Ct.mk G none U H) D' H' → Rv (Ct.mk G none U H) false H' v r → Q v H'
  | _ => False
def runC (m : Nat) (f : ST) (cs ds : List PyData) (D : Dw) : R PyData := match f (envC m ds cs) D with
  | .ok (.ret d, _) D' => .ok d D'
  | .ok (.nx, _) D' => .ok .none D'
  | _ => .stuck
theorem spC_len {G : Gt} {n : Nat} {F : List PyData → List PyData → Dw → R PyData} {vs : List V} {H : Hp} {Q : VK} {E : XK} (h : spC G n F vs H Q E) : vs.length = n + 1 := by
  obtain ⟨U, ds, D, us, cs, rfl, h1, _, _, h4, _⟩ := h
  rw [List.length_append, h4.len, h1]
  rfl
section
variable {P : Program} {w : World} {K : PySem.W.Frag} {mg : Str → Option Value} {base : Heap}
theorem fm_startC {G : Gt} {U : List Addr} {H : Hp} {ds cs : List PyData} {us : List V} {D : Dw} {N : List Str} (hn : us.length + 1 ≤ N.length)
    (hd : ∀ a, a ∈ (Ct.mk G none U H).ch ∨ a ∈ U → H a ≠ none) (ht : TbOk G H) (h : DtL ((Ct.mk G none U H).ch ++ U) H us ds) (hc : H G.lam.f = some (LmO G.lam) ∧ H G.lam.c = some (CodeO G.lam.c G.lam.q) ∧ DtL ((Ct.mk G none U H).ch ++ U) H G.lam.vs cs) :
    Fm (Ct.mk G none U H) ((Ct.mk G none U H).ch ++ U) (envC N.length ds cs) D (L2.start N (us ++ [.ref G.lam.f])) H := by
  have hl := h.len
  have hs : L2.start N (us ++ [.ref G.lam.f]) = us.map some ++ ([some (V.ref G.lam.f)] ++ List.replicate (N.length - us.length - 1) none) := by
    unfold L2.start
    rw [List.map_append, List.append_assoc, List.length_append, Nat.sub_sub]
    rfl
  have noown : ∀ (i : Nat) (t : T), (envC N.length ds cs)[i]? = some (some t) → own t = false ∧ ∃ v, (L2.start N (us ++ [.ref G.lam.f]))[i]? = some (some v) ∧ Rt (Ct.mk G none U H) ((Ct.mk G none U H).ch ++ U) H v t := fun i t e => by
    rw [hs]
    unfold envC at e
    by_cases hi : i < ds.length
    · rw [List.getElem?_append_left (by rw [List.length_map]; exact hi), List.getElem?_map] at e
      cases q : ds[i]? with
      | none => rw [q] at e; cases e
      | some d =>
        rw [q] at e
        cases e
        obtain ⟨v, h1, h2⟩ := h.get q
        refine ⟨rfl, v, ?_, h2⟩
        rw [List.getElem?_append_left (by rw [List.length_map, hl]; exact hi), List.getElem?_map, h1]
        rfl
    · rw [List.getElem?_append_right (by rw [List.length_map]; omega), List.length_map] at e
      rw [List.getElem?_append_right (by rw [List.length_map]; omega), List.length_map, hl]
      cases j : i - ds.length with
      | zero =>
        rw [j] at e
        cases e
        exact ⟨rfl, _, rfl, rfl, hc⟩
      | succ m =>
        rw [j] at e
        have e : (List.replicate (N.length - ds.length - 1) none)[m]? = some (some t) := e
        have := List.eq_of_mem_replicate (List.mem_of_getElem? e)
        cases this
  exact {
    len := by rw [hs]; unfold envC; simp [hl]
    slot := fun i t e => (noown i t e).2
    uniq := fun i j t u v _ e _ o _ _ _ => by rw [(noown i t e).1] at o; cases o
    base := fun a m => List.mem_append.mpr m
    dom := fun a m => hd a (List.mem_append.mp m)
    kp := .refl
    tb := ht
    dr := trivial
    drc := fun d w c e => by cases e }
theorem okCl {x qual : Str} {st : Stmt} {fa c : Addr} {fd : FuncData} {N ps : List Str} {k n : Nat} {G : Gt} {f : ST} (F : Fun K x qual st fa fd) (hc : fd.code = .ref c) (S : FnScope N ps (defScope st)) (hps : ps.length = n + 1) (hN : n + 1 ≤ N.length)
    (hb : ∀ (A : Around) (outer : List PySem.Env) (s : Shared) (H : Hp) (E : XK) (U : List Addr), Room k (A.deeper (envOfC qual (defScope st) s.heap.objs.size fa (.ref c))) →
      VSs (fun _ : Unit => (cxOf CX0 P w K mg base N qual (defScope st) fa (.ref c) A outer s H E).nox) (Ct.mk G none U H) E0 false (defBody st) f) :
    FnOk P w K mg base CX0 (k + 1) fa fd ps (spC G n (runC N.length f)) := by
  refine okC0 F hc S (fun vs H Q E h => by rw [spC_len h, hps]) (fun A outer s H vs Q E hr h => ?_)
  obtain ⟨U, ds, D, us, cs, rfl, h2, h3, h4, h6, hl, h7⟩ := h
  obtain ⟨t, p, q⟩ := (hb A outer s H E U hr).ex
  refine ⟨t, p (), ?_⟩
  have B := q _ _ D _ H { nx := fun _ H' => Q .non H', rt := Q } (fm_startC (N := N) (by rw [h6.len, h2]; exact hN) h3 h4 h6 hl)
  unfold runC at h7
  cases hf : f (envC N.length ds cs) D with
  | stuck => rw [hf] at h7; exact h7.elim
  | err c fs D' => rw [hf] at h7; exact h7.elim
  | ok pp D' =>
    rw [hf] at h7 B
    obtain ⟨o, ρ'⟩ := pp
    cases o with
    | nx => exact B fun S' σ' H' x F' => h7 .non H' F'.end (.non : Dt _ _ _ _)
    | ret d => exact B fun v H' e r => h7 v H' e r
    | brk => exact h7.elim
    | ct => exact h7.elim
end
/-! ### calls of it -/
namespace Ev
def callC (i n : Nat) (F : List PyData → List PyData → Dw → R PyData) (a : EA) : EX := fun ρ D => match ρ[i]? with
  | some (some (.cl cs)) => (a ρ D).bind fun ds D1 => if ds.length = n then match F cs ds D1 with
    | .ok r _ => .ok r D1
    | _ => .stuck
    else .stuck
  | _ => .stuck
def capD (ρ : Env) : List Nat → Option (List PyData)
  | [] => some []
  | j :: js => match ρ[j]? with
    | some (some (.d x)) => (capD ρ js).map (x :: ·)
    | _ => none
def lamC (js : List Nat) (n : Nat) (F : List PyData → List PyData → Dw → R PyData) (a : EA) : EX := fun ρ D => match capD ρ js with
  | some cs => (a ρ D).bind fun ds D1 => if ds.length = n then match F cs ds D1 with
    | .ok r _ => .ok r D1
    | _ => .stuck
    else .stuck
  | none => .stuck
end Ev
section
variable {ι : Type} {X : ι → Cx} {C : Ct} {E : XK} {S : List Addr} {ρ : Env} {D : Dw} {σ : St} {H : Hp}
variable {a b c e : Expr} {es : List Expr} {pos p : Pos} {fa fb fc : EX} {aa : EA} {F : List PyData → List PyData → Dw → R PyData} {x : Str}
theorem ve_callC {i n : Nat} (h : VA X C E es aa) (hp : ∀ i_ ta, PA (X i_) es ta → PE (X i_) e (tCallLm i C.G.lam (spL C.G n F) ta)) : VE X C E e (Ev.callC i n F aa) := by
  obtain ⟨t, p, q⟩ := h.ex
  refine ⟨_, fun i => hp i t (p i), fun S ρ D σ H F0 => ?_⟩
  show PostE C E S ρ σ H _ (Ev.callC i n F aa ρ D) (fun Q => σ[i]? = some (some (.ref C.G.lam.f)) ∧ H C.G.lam.f = some (LmO C.G.lam) ∧ t σ H fun vs H1 => H1 C.G.lam.f = some (LmO C.G.lam) ∧ H1 C.G.lam.c = some (CodeO C.G.lam.c C.G.lam.q) ∧ spL C.G n F vs H1 Q E0)
  unfold Ev.callC
  split
  · rename_i cs hi
    obtain ⟨v, sv, rfl, e1, e2, e3⟩ := F0.slot i _ hi
    have A : PostE C E S ρ σ H (fun v H' d => Dt S H' v d) ((aa ρ D).bind fun ds D1 => if ds.length = n then match F cs ds D1 with | .ok r _ => .ok r D1 | _ => .stuck else .stuck) (fun Q => t σ H fun vs H1 => H1 C.G.lam.f = some (LmO C.G.lam) ∧ H1 C.G.lam.c = some (CodeO C.G.lam.c C.G.lam.q) ∧ spL C.G n F vs H1 Q E0) := by
      refine PostA.bindE (q S ρ D σ H F0) fun ds D1 vs H1 k1 F1 h1 => ?_
      split
      · rename_i hl
        cases hF : F cs ds D1 with
        | stuck => trivial
        | err c fs D2 => trivial
        | ok r D2 =>
          intro Q hq
          obtain ⟨p1, p2, p3⟩ := call0_pre F1
          obtain ⟨v1, sv1, _, g1, g2, g3⟩ := F1.slot i _ hi
          refine ⟨g1, g2, S, ds, D1, cs, hl, p1, F1.tb, h1.sub p2, g3.sub p2, ?_⟩
          rw [hF]
          intro v H' e rv
          obtain ⟨k, F2⟩ := p3 H' D2 e
          exact hq v H' ⟨k, k.mono fun b m => F1.base b (.inl m)⟩ F2 (back_ok (C' := Ct.mk C.G none S H1) F1 rfl (fun a m => tabs_ch a ((List.mem_append.mp m).elim id fun z => absurd z List.not_mem_nil)) rfl k F2 rv)
      · trivial
    unfold PostE at A ⊢
    split <;> rename_i hz <;> rw [hz] at A
    · trivial
    · exact fun Q hq => ⟨sv, e1, A Q hq⟩
    · exact fun z Q => ⟨sv, e1, A z Q⟩
  · trivial
/-- the values that are captured -/
theorem cap_slots (F0 : Fm C S ρ D σ H) : ∀ {js : List Nat} {cs : List PyData}, Ev.capD ρ js = some cs → ∃ vs, js.map (slotAt σ) = vs.map some ∧ DtL S H vs cs
  | [], cs, h => by cases h; exact ⟨[], rfl, .nil⟩
  | j :: js, cs, h => by
    unfold Ev.capD at h
    split at h
    · rename_i x hj
      cases q : Ev.capD ρ js with
      | none => rw [q] at h; cases h
      | some cs' =>
        rw [q] at h
        cases h
        obtain ⟨vs, h1, h2⟩ := cap_slots F0 q
        obtain ⟨v, sv, hv⟩ := F0.slot j _ hj
        exact ⟨v :: vs, by rw [List.map_cons, List.map_cons, h1, slotAt_of sv], .cons hv h2⟩
    · cases h
/-- a reading that can be weakened -/
def tMo (t : TE) : TE := fun σ H Q => ∃ Q', t σ H Q' ∧ ∀ v H', Q' v H' → Q v H'
theorem pe_mo {X : Cx} {t : TE} (h : PE X e t) : PE X e (tMo t) := ⟨fun pins s σ H Q I ⟨Q', h1, h2⟩ => thn (h.run pins s σ H Q' I h1) fun v s' ⟨v', H', J, r, q⟩ => ⟨v', H', J, r, h2 _ _ q⟩⟩
def withLam (G : Gt) (l : Lam) : Gt := { G with lam := l }
/-- the promise that is wanted of the def, over a grown base -/
structure LamAt (base : Heap) (q : Str) (params : Arguments) (body : Expr) (scope : Scope) (fr : List Str) (b : Heap) (l : Lam) : Prop where
  bx : BX base b
  q : l.q = q
  pr : l.pr = params
  bd : l.bd = body
  sc : l.sc = scope
  cap : CapB b l.cl fr l.vs
theorem tb_ext {G : Gt} {P : Addr} {q : Str} {H H2 : Hp} (tb : TbOk G H) (hu : ∀ p ∈ G.Tq, p.1 = P → p.2 = q) (hn : P ∉ G.Ts) (ex : ExtP P H H2) (t : TabS H2 P q) (hP : ∃ ps, H P = some (.tbl ps)) : TbOk G H2 := by
  obtain ⟨ps0, hP⟩ := hP
  refine ⟨fun P' m => ?_, fun p m => ?_⟩
  · obtain ⟨ps, e1, e2⟩ := tb.g P' m
    exact ⟨ps, ex _ _ (fun z => hn (z ▸ m)) e1, e2⟩
  · by_cases e : p.1 = P
    · rw [hu p m e, e]; exact t
    · obtain ⟨ps, e1, e2, e3⟩ := tb.q p m
      refine ⟨ps, ex _ _ e e1, e2, fun pos cv z => ?_⟩
      obtain ⟨c, rfl, y⟩ := e3 pos cv z
      exact ⟨c, rfl, ex _ _ (fun z => by rw [z, hP] at y; exact codeO_ne ps0 (Option.some.inj y).symm) y⟩
theorem kp_ext {P : Addr} {H H2 : Hp} {ps} (hP : H P = some (.tbl ps)) (ex : ExtP P H H2) : Kp [P] H H2 := fun b o eb q => by
  by_cases hb : b = P
  · subst hb
    rcases q with q | q
    · rw [hP] at eb; cases eb; cases q
    · exact absurd (List.mem_singleton.mpr rfl) q
  · exact ex b o hb eb
theorem ve_lamC {base : Heap} {P g : Addr} {q : Str} {params : Arguments} {body : Expr} {scope : Scope} {fr : List Str} {js : List Nat} {k : Nat} {fd : FuncData} {ps : List Str}
    (hbs : ∀ i, (X i).base = base) (hq : ∀ i, (X i).env.qual ++ "<lambda>" = q) (hPQ : (P, q) ∈ C.G.Tq) (hu : ∀ p ∈ C.G.Tq, p.1 = P → p.2 = q) (hn : P ∉ C.G.Ts)
    (ha : VE X C E a fa)
    (hp : ∀ i Fn t0, (∀ b sp, Fn b sp → FnOk (X i).prog (X i).w (X i).K (X i).mg b CX0 k g fd ps sp) → PE (X i) a t0 → PE (X i) e (tRe (X i) Fn (cloFrom (X i).env.cells scope.names []) fr js (tCons t0 (tCons (tLm (X i) P params body scope) tNil))))
    (hC : ∀ i b l, LamAt base q params body scope fr b l → FnOk (X i).prog (X i).w (X i).K (X i).mg b CX0 k g fd ps (spC (withLam C.G l) 1 F)) :
    VE X C E e (Ev.lamC js 1 F (Ev.cons fa Ev.nil)) := by
  obtain ⟨t, pa, qa⟩ := ha.ex
  refine ⟨fun σ H Q => tMo t σ H fun v0 H1 => TabS H1 P q ∧ ∀ base' f c' cl H2, BX base base' → ExtP P H1 H2 → TabS H2 P q → (∀ vs, H2 f = some (LmO ⟨f, c', q, params, body, scope, cl, vs⟩)) → H2 c' = some (CodeO c' q) → (∀ cs, js.map (slotAt σ) = cs.map some → CapB base' cl fr cs) → ∃ sp, (∃ l, LamAt base q params body scope fr base' l ∧ sp = spC (withLam C.G l) 1 F) ∧ sp [v0, .ref f] H2 Q E0, fun i => ?_, fun S ρ D σ H F0 => ?_⟩
  · have h := hp i (fun b sp => ∃ l, LamAt base q params body scope fr b l ∧ sp = spC (withLam C.G l) 1 F) (tMo t) (fun b sp ⟨l, hl, e⟩ => by rw [e]; exact hC i b l hl) (pe_mo (pa i))
    refine ⟨fun pins s σ H Q I ⟨Q', h1, h2⟩ => h.run pins s σ H Q I ?_⟩
    refine ⟨Q', h1, fun v0 H1 z => ?_⟩
    obtain ⟨z1, z2⟩ := h2 v0 H1 z
    refine ⟨by rw [hq i]; exact z1, fun f c' H2 ex t2 e1 e2 => ?_⟩
    rw [hq i] at t2 e1 e2
    intro base' bx hcap
    rw [hbs i] at bx
    exact z2 base' f c' _ H2 bx ex t2 e1 e2 hcap
  · unfold Ev.lamC
    cases hcp : Ev.capD ρ js with
    | none => trivial
    | some cs =>
      dsimp only
      have e1 : ((Ev.cons fa Ev.nil) ρ D).bind (fun ds D1 => if ds.length = 1 then (match F cs ds D1 with | .ok r _ => .ok r D1 | _ => .stuck) else .stuck) = (fa ρ D).bind fun d D1 => (match F cs [d] D1 with | .ok r _ => .ok r D1 | _ => .stuck : R PyData) := by
        unfold Ev.cons Ev.nil
        cases fa ρ D <;> rfl
      rw [e1]
      have A := qa S ρ D σ H F0
      cases hf : fa ρ D with
      | stuck => trivial
      | err c fs D1 =>
        rw [hf] at A
        exact fun z Q => ⟨_, A z _, fun _ _ h => h⟩
      | ok d D1 =>
        rw [hf] at A
        simp only [bind_ok]
        cases hF : F cs [d] D1 with
        | stuck => trivial
        | err c fs D2 => trivial
        | ok r D2 =>
          refine fun Q hQ => ⟨fun v H' => Kq C S H H' ∧ Fm C S ρ D1 σ H' ∧ Dt S H' v d, A _ fun v H' k F' p => ⟨k, F', p⟩, fun v0 H1 ⟨k1, F1, h1⟩ => ?_⟩
          have tP := F1.tb.q (P, q) hPQ
          refine ⟨tP, fun base' f c' cl H2 bx ex t2 e2 e3 hcap => ?_⟩
          obtain ⟨ps0, hP0, _⟩ := id tP
          obtain ⟨vs, hvs, hdt⟩ := cap_slots F1 hcp
          have kP : Kp [P] H1 H2 := kp_ext hP0 ex
          have mT : P ∈ C.G.tabs := List.mem_append_right _ (List.mem_map.mpr ⟨_, hPQ, rfl⟩)
          have kT : Kp C.G.tabs H1 H2 := kP.mono fun b m => (List.mem_singleton.mp m) ▸ mT
          have kC : Kp C.ch H1 H2 := kT.mono tabs_ch
          have F2 : Fm C S ρ D1 σ H2 := F1.after kC (tb_ext F1.tb hu hn ex t2 ⟨_, hP0⟩) (F1.drT kT)
          have kS : Kp S H1 H2 := kC.mono fun b m => F1.base b (.inl m)
          obtain ⟨p1, p2, p3⟩ := call0_pre F2
          refine ⟨_, ⟨⟨f, c', q, params, body, scope, cl, vs⟩, ⟨bx, rfl, rfl, rfl, rfl, hcap vs hvs⟩, rfl⟩, ?_⟩
          refine ⟨S, [d], D1, [v0], cs, rfl, rfl, p1, ⟨F2.tb.g, F2.tb.q⟩, .cons ((h1.kp kS).sub p2) .nil, ⟨e2 vs, e3, (hdt.kp kS).sub p2⟩, ?_⟩
          rw [hF]
          intro v H' en rv
          obtain ⟨k, F3⟩ := p3 H' D2 ⟨en.kp, ⟨en.tb.g, en.tb.q⟩, trivial⟩
          refine hQ v H' ((k1.trans ⟨kC, kS⟩).trans ⟨k, k.mono fun b m => F1.base b (.inl m)⟩) F3 ?_
          exact back_ok (C' := Ct.mk C.G none S H2) F2 rfl (fun a m => tabs_ch a ((List.mem_append.mp m).elim id fun z => absurd z List.not_mem_nil)) rfl k F3 rv
end
end Fx
set_option Elab.async false
set_option linter.all false
set_option maxRecDepth 100000
set_option maxHeartbeats 4000000
/-! class X(..): def __init__(self, at): super().__init__(f'at {at}'); self.at = at -/
namespace KbAt
open PySem PySem.W PySem.Calls PyProof.Rows PySem.HandSPX
structure Ps where
  (p0 p1 p2 p3 p4 p5 p6 p7 p8 q1 q2 q3 q4 a1 a2 : Pos)
def prm (z : Ps) : Arguments := { posonlyargs := [], args := [⟨"self", none, z.a1⟩, ⟨"at", none, z.a2⟩], vararg := none, kwonlyargs := [], kw_defaults := [], kwarg := none, defaults := [] }
def s1 (z : Ps) : Stmt := .Expr (.Call (.Attribute (.Call (.Name "super" z.p0) [] [] z.p1) "__init__" z.p2) [.JoinedStr [.Constant (.str "at ") 0 z.p3, .FormattedValue (.Name "at" z.p4) (-1) none z.p5] z.p6] [] z.p7) z.p8
def s2 (z : Ps) : Stmt := .Assign [.Attribute (.Name "self" z.q1) "at" z.q2] (.Name "at" z.q3) z.q4
def sco : Scope := { kind := .function, names := [("self", .local), ("at", .local), ("__class__", .free), ("super", .globalImplicit)], isGenerator := false, isCoroutine := false, more := [] }
/-- what the written part says of such a class, at C, of its __init__, at f, of the cell of its name, at cc -/
structure Txt (P : Program) (K : Frag) (C f cc cda : Addr) (q : Str) (z : Ps) : Prop where
  cls : ∃ nm qn N bs bm sn sub ab col dd k0 k1 k2 k3 k5, K.lookup C = some (excClassObj nm qn C N bs bm true sn sub ab col dd k0 k1 k2 k3 k5 "ValueError.__new__") ∧ refsVE bm = true ∧ alongIn K "__init__" bm = some (some (.builtin "ValueError.__init__"))
  sa : findIn K (.ref C) "__setattr__" = some (some (.builtin "object.__setattr__"))
  noN : findIn K (.ref C) "at" = some none
  iC : findIn K (.ref C) "__init__" = some (some (.ref f))
  tf : typeIn K (.ref f) = some (.type "function")
  kC : keepIn K (.ref C) = true
  exC : subIn K (.ref C) (.type "BaseException") = some true
  veC : subIn K (.ref C) (.type "ValueError") = some true
  self : mroIn K C (.ref C) = some true
  tyC : typeIn K (.ref C) = some (.type "type")
  op : nsIn K cStatics "thirdparty.any" = some none
  fn : ∃ oc od kV doc pm an ct osl, K.lookup f = some ⟨oc, od, .func (ksFn "__init__" q (prm z) [s1 z, s2 z] sco .none kV doc pm an (.ref cda) ct cc), osl⟩
  co : codeIn K (.ref cda) q = true
  fl : ∃ ccl cdd vs ccs file tf, K.lookup cda = some ⟨ccl, cdd, .fields vs, ccs⟩ ∧ vs[2]? = some (.str file tf) ∧ (P.main.file == file) = true
  cell : ∃ cl cld csl, K.lookup cc = some ⟨cl, cld, .cell (some (.ref C)), csl⟩
  ln : (z.p2.endLine == z.p7.line) = true
  top : (P.main.scope.names.lookup ("super" : Str)).isSome = false
/-- what __init__ leaves of a fresh exception at x -/
structure Fin (h h' : Heap) (x C dx t1 : Addr) (v : Value) : Prop where
  keep : ∀ b o, b ≠ x → h.get? b = some o → h'.get? b = some o
  obj : h'.get? x = some { cls := .ref C, dict := some dx, data := .fields #[.ref t1, .none, .none, .none, .bool false, .none] }
  dbig : h.objs.size ≤ dx
  dne : dx ≠ x
  ns : h'.Ns1 dx (fun y => if y = "at" then some v else none)
theorem ldX {M : Model} {s : Shared} {q : Str} {L f cc : Addr} {cd : Value} {m : Str → Option Value} {x : Str} {pos : Pos} {v : Value} {Q : Value → Shared → Prop} {A : Around} {E : Value → Shared → Prop} (hn : s.heap.Ns L m) (hv : m x = some v) (h : Q v s)
    (hl : (ksEnv q sco L f cd cc).kindOf x = some .local := by rfl) (hd : (x == ("__debug__" : Str)) = false := by decide) :
    wpAny M A (eval (.Name x pos) (ksEnv q sco L f cd cc)) Q E s := wpAny_Name (wpAny_loadName_local rfl hl hn hv h) hd
/-- the bound __init__, called -/
theorem call_mw {prog : Program} {w : World} {A : Around} {E : Value → Shared → Prop} {h : Heap} {g : Array GenState} {d : Drawn} {t : Nat} {os : OsState} {nm q : Str} {C N : Addr} {bs bm : List Value} {hdct : Bool} {sn : List Str} {sub : List Value} {ab : Bool} {col : Option Bool} {dd : Option Addr} {k0 k1 k2 k3 k5 : Option Value}
    {u e t0 : Addr} {rest : List Value} {Q : Value → Shared → Prop}
    (hC : h.get? C = some (excClassObj nm q C N bs bm hdct sn sub ab col dd k0 k1 k2 k3 k5 "ValueError.__new__")) (he : h.get? e = some (HandSPX.excO C t0)) (hu : h.get? u = some (kxs_mw "ValueError.__init__" e)) (hrest : rest.length ≤ sizeLine)
    (hq : ∀ h' t1, (∀ b o, b ≠ e → h.get? b = some o → h'.get? b = some o) → h'.get? e = some (HandSPX.excO C t1) → Q .none ⟨h', g, d, t, os⟩) :
    wpAny (model prog w) A (call (.ref u) rest) Q E ⟨h, g, d, t, os⟩ := by
  refine wpAny_call (codeAny_of_tree ?_)
  show wpAny _ A.in1 (callAny (.ref u) ⟨rest, []⟩) _ _ _
  simp only [callAny]
  refine wpAny_bind (wpAny_load hu ?_)
  simp only [kxs_mw, show (Value.type "method-wrapper" == Value.type "method" || Value.type "method-wrapper" == Value.type "builtin_function_or_method" || Value.type "method-wrapper" == Value.type "method-wrapper") = true by decide, if_true]
  refine KFB.if_so (by decide) ?_
  refine wpAny_bind (check_bound_init F.excBase_ValueError.toExcCallFacts hC he rfl (wpAny_bind (wpAny_pure (wpAny_pure ⟨plainId_quiet F.excBase_ValueError.init.plain _, codeAny_builtin F.excBase_ValueError.initEntry ?_⟩))))
  exact exc_init_tree (cls := .ref C) (t0 := t0) (dv := none) (c2 := .none) (c3 := .none) (b4 := .bool false) he hrest fun h' k e' _ => hq h' _ k e'
section
variable {prog : Program} {w : World} {A : Around} {R : Result → Shared → Prop} {s : Shared} {K : Frag} {C f cc cda : Addr} {q : Str} {z : Ps} {mg mb : Str → Option Value}
theorem init (T : Txt prog K C f cc cda q z) {x t0 : Addr} {i : Int} {tk0 : Tok} (X : K.In s.heap) (hlim : s.heap.NoLimit) (hG : s.heap.Ns mainGlobals mg) (hB : s.heap.Ns builtinsNs mb) (hsu : mg "super" = none) (hbb : mb "super" = some (.type "super"))
    (hx : s.heap.get? x = some (excO C t0)) (hnx : K.lookup x = none) (hroom : A.depth < recursionLimit) (hi : i.natAbs.log2 < 1920) (hlen : (("at " : Str) ++ (toString i : Str)).length ≤ sizeLine)
    (hq : ∀ h' tk dx t1, Fin s.heap h' x C dx t1 (.int i tk0) → R (.ok (.ret .none)) { s with heap := h', toks := tk }) :
    codeAny (model prog w) A (.call (.ref f) ⟨[.ref x, .int i tk0], []⟩) R s := by
  obtain ⟨oc, od, kV, doc, pm, an, ct, osl, ho⟩ := T.fn
  obtain ⟨nm, qn, N, bs, bm, sn, sub, ab, col, dd, k0, k1, k2, k3, k5, hC, hbm, hal⟩ := T.cls
  obtain ⟨ccl, cdd, vs, ccs, file, tf, hcode, hvs, hfile⟩ := T.fl
  obtain ⟨cl, cld, csl, hcell⟩ := T.cell
  have hcl : clsIn K C = some { name := nm, bases := bs, mro := .ref C :: bm, ns := N, qualname := qn, hasDict := true, slotNames := sn, subclasses := sub, abstract := ab, collection := col, hasDel := false } := by unfold clsIn; rw [hC] <;> rfl
  refine ks_codeAny_call_defAt (fd := ksFn "__init__" q (prm z) [s1 z, s2 z] sco .none kV doc pm an (.ref cda) ct cc) (body := [s1 z, s2 z]) (binds := [("self", .ref x), ("at", .int i tk0)]) hroom (X _ _ ho) rfl hlim (codeRec_of X T.co) rfl
    (BindsTo.of_eq (by first | rfl | with_unfolding_all rfl)) (show ∀ y ∈ sco.names, y.2 ≠ .cell by decide) (fun y hy => ?_) (fun h₁ hns k => ?_) rfl rfl rfl
  · rcases List.mem_cons.mp hy with e | e
    · rw [e] <;> rfl
    · rw [List.mem_singleton.mp e] <;> rfl
  have X₁ : K.In h₁ := X.keeps k
  have hx₁ := k _ _ hx
  have hL : s.heap.objs.size ≠ x := Nat.ne_of_gt (Heap.lt_size hx)
  show _root_.PySem.wpAt _ _ _ (execs [s1 z, s2 z] (ksEnv q sco s.heap.objs.size f (.ref cda) cc)) _ _ _
  have hpos : methodCallPos true (.Call (.Name "super" z.p0) [] [] z.p1) (ksEnv q sco s.heap.objs.size f (.ref cda) cc) z.p2 z.p7 = pure z.p7 := by
    unfold methodCallPos
    simp [T.ln]
  obtain ⟨PL, hcall⟩ : ∃ PL, eval (.Call (.Attribute (.Call (.Name "super" z.p0) [] [] z.p1) "__init__" z.p2) [.JoinedStr [.Constant (.str "at ") 0 z.p3, .FormattedValue (.Name "at" z.p4) (-1) none z.p5] z.p6] [] z.p7) (ksEnv q sco s.heap.objs.size f (.ref cda) cc) = (do
      let ov ← attributeBase (.Call (.Name "super" z.p0) [] [] z.p1) "__init__" (ksEnv q sco s.heap.objs.size f (.ref cda) cc) (eval (.Call (.Name "super" z.p0) [] [] z.p1) (ksEnv q sco s.heap.objs.size f (.ref cda) cc))
      standAt z.p2.atName
      let (fx, first) ← holding [ov] (getMethod ov "__init__" PL)
      callWith z.p7 fx first (backTo z.p7 (starEach [.JoinedStr [.Constant (.str "at ") 0 z.p3, .FormattedValue (.Name "at" z.p4) (-1) none z.p5] z.p6] (ksEnv q sco s.heap.objs.size f (.ref cda) cc))) []) := by
    refine ⟨(do return (← importBound (.Call (.Name "super" z.p0) [] [] z.p1) (ksEnv q sco s.heap.objs.size f (.ref cda) cc)).getD true), ?_⟩
    rw [arm_eval_Call]
    unfold methodCall calleeOf
    have hform : methodCallForm (([.JoinedStr [.Constant (.str "at ") 0 z.p3, .FormattedValue (.Name "at" z.p4) (-1) none z.p5] z.p6] : List Expr).length + ([] : List Keyword).length) (backTo z.p7 (starEach [.JoinedStr [.Constant (.str "at ") 0 z.p3, .FormattedValue (.Name "at" z.p4) (-1) none z.p5] z.p6] (ksEnv q sco s.heap.objs.size f (.ref cda) cc))) (backToKw z.p7 (keywordEach [] (ksEnv q sco s.heap.objs.size f (.ref cda) cc))) = true := rfl
    rw [hform, hpos]
    rfl
  refine ks_wpAt_execs_cons (ks_wpAt_Expr_any (ks_wpAt_MethodCall (pl := PL) ?_ hcall))
  -- super()
  refine ks_wpAt_super_base (env := ksEnv q sco s.heap.objs.size f (.ref cda) cc) rfl rfl (by decide) rfl (X₁ _ _ ho) rfl rfl rfl (X₁ _ _ hcode) rfl hvs hfile T.top ?_
  refine ks_loadName_global rfl rfl (loadGlobal_builtin (env := ksEnv q sco s.heap.objs.size f (.ref cda) cc) (hG.keeps k) hsu (hB.keeps k) hbb ⟨rfl, ?_⟩)
  refine wpAny_loadName_free rfl rfl rfl ⟨_, X₁ _ _ hcell, rfl⟩ ?_
  refine wpAny_loadName_local (name := "self") (m := fun y => ([("self", Value.ref x), ("at", .int i tk0)] : List (Str × Value)).reverse.lookup y) rfl rfl hns rfl ?_
  refine ks_wpAny_isType_cls (X₁ _ _ hC) rfl ⟨rfl, ?_⟩
  refine ks_wpAny_call_super (C := C) (X₁ _ _ hC) rfl hx₁ rfl (fun c e => by cases e) (looks_mroIn X₁ T.self) (fun h₂ hso k₂ => ?_)
  have X₂ : K.In h₂ := X₁.keeps k₂
  have hx₂ := k₂ _ _ hx₁
  -- .__init__
  have hxC : x ≠ C := fun e => by
    rw [e] at hnx
    rw [hnx] at hC
    cases hC
  refine kxs_getMethod (K := K) (D := C) (x := x) (C := C) kxs_ValueError hso (looks_opaque X₂ T.op) (l₀ := .ref C :: bm) (l := bm) (fun A Q E s k q => wpAny_bind ((looks_clsIn X₂ hcl) A _ E s k (wpAny_pure q))) ?_ X₂ hal ?_ hxC (by decide) ?_
  · rw [List.dropWhile_cons]
    simp
  · have J : InstAt h₂ x (excO C t0) C none := ⟨hx₂, rfl, rfl, trivial⟩
    exact J.type.andThen (looks_subIn X₂ T.veC)
  have hmw : (h₂.push (kxs_mw "ValueError.__init__" x)).get? h₂.objs.size = some (kxs_mw "ValueError.__init__" x) := Heap.get?_push_at rfl rfl
  have up3 : ∀ b o, h₂.get? b = some o → (h₂.push (kxs_mw "ValueError.__init__" x)).get? b = some o := fun b o e => Heap.get?_push_of_some _ e
  show wpAny _ _ (callWith _ (.ref h₂.objs.size) [] _ []) _ _ _
  refine kxs_callWith (i := "ValueError.__init__") (x := x) rfl (evalArgs_plain ?_)
  -- f'at {at}'
  refine spliced_cons (wpAny_JoinedStr (pos := z.p6) ?_)
  have keep₂ : ∀ b o, s.heap.get? b = some o → h₂.get? b = some o := fun b o e => k₂ b o (k b o e)
  have hns₃ : (h₂.push (kxs_mw "ValueError.__init__" x)).Ns s.heap.objs.size (fun y => ([("self", Value.ref x), ("at", .int i tk0)] : List (Str × Value)).reverse.lookup y) := (hns.keeps k₂).keeps up3
  show wpAny _ _ (eval (.Constant (.str "at ") 0 z.p3) _) _ _ _
  refine Constant_str ⟨"at ", _, rfl, ?_, ?_⟩
  · show (3 : Nat) ≤ sizeLine
    rw [sizeLine_eq]
    decide
  show wpAny _ _ (eval (.FormattedValue (.Name "at" z.p4) (-1) none z.p5) _) _ _ _
  refine wpAny_FormattedValue_plain (ldX (v := .int i tk0) hns₃ rfl (wpAny_formatField_int hi ⟨toString i, _, rfl, hlen, ?_⟩))
  refine ⟨hlen, spliced_nil ⟨hmw, ?_⟩⟩
  refine call_mw (up3 _ _ (X₂ _ _ hC)) (up3 _ _ hx₂) hmw (by show 1 ≤ sizeLine; rw [sizeLine_eq]; decide) fun h₄ t1 k₄ hx₄ => ?_
  -- self.at = at
  have k₀₄ : ∀ b o, b ≠ x → s.heap.get? b = some o → h₄.get? b = some o := fun b o hb e => k₄ b o hb (up3 _ _ (keep₂ _ _ e))
  have X₄ : K.In h₄ := fun b o e => k₄ b o (fun ez => by rw [ez, hnx] at e; cases e) (up3 _ _ (X₂ _ _ e))
  have hns₄ : h₄.Ns s.heap.objs.size (fun y => ([("self", Value.ref x), ("at", .int i tk0)] : List (Str × Value)).reverse.lookup y) := by
    obtain ⟨o, es, ep, e1, e2⟩ := hns₃
    exact ⟨o, es, ep, k₄ _ _ hL e1, e2⟩
  refine wpAt_of_wpAny (wpAny_execs_cons (plainObj_wpAny_Assign_Attribute ?_))
  refine ldX (v := .int i tk0) hns₄ rfl (ldX (v := .ref x) hns₄ rfl ?_)
  refine set_plain X₄ (ox := excO C t1) (od := none) ⟨hx₄, rfl, rfl, trivial⟩ T.sa ?_
  refine exc_osa X₄ hx₄ hcl (show refsVE (.ref C :: bm) = true from hbm) rfl T.noN (fun h₅ tk₅ dx k₅ dn dne hx₅ hn₅ => ?_)
  refine wpAny_execs_nil (hq h₅ tk₅ dx t1 ⟨fun b o hb e => k₅ b o hb (k₀₄ b o hb e), hx₅, ?_, dne, hn₅⟩)
  refine Nat.le_trans ?_ dn
  exact Nat.le_of_lt hns₄.lt
/-- a made one -/
structure Made (h h' : Heap) (e C d : Addr) (v : Value) : Prop where
  keep : ∀ b o, h.get? b = some o → h'.get? b = some o
  new : h.objs.size ≤ e
  obj : ∃ oe vs, h'.get? e = some oe ∧ oe.cls = .ref C ∧ oe.dict = some d ∧ oe.data = .fields vs ∧ vs[1]? = some .none
  dbig : h.objs.size ≤ d
  dne : d ≠ e
  ns : h'.Ns1 d (fun y => if y = "at" then some v else none)
theorem made (T : Txt prog K C f cc cda q z) {i : Int} {tk0 : Tok} (X : K.In s.heap) (hlim : s.heap.NoLimit) (hG : s.heap.Ns mainGlobals mg) (hB : s.heap.Ns builtinsNs mb) (hsu : mg "super" = none) (hbb : mb "super" = some (.type "super"))
    (hroom : A.depth + 1 < recursionLimit) (hi : i.natAbs.log2 < 1920) (hlen : (("at " : Str) ++ (toString i : Str)).length ≤ sizeLine)
    (hq : ∀ h' tk e d, Made s.heap h' e C d (.int i tk0) → R (.ok (.ret (.ref e))) { s with heap := h', toks := tk }) :
    codeAny (model prog w) A (.call (.ref C) ⟨[.int i tk0], []⟩) R s := by
  obtain ⟨nm, qn, N, bs, bm, sn, sub, ab, col, dd, k0, k1, k2, k3, k5, hC, hbm, _⟩ := T.cls
  obtain ⟨hp, g, dr, tk, os⟩ := s
  have k : ∀ b o, hp.get? b = some o → ((hp.push (kdv_tup [.int i tk0])).push (excO C hp.objs.size)).get? b = some o := fun b o e => Heap.get?_push_of_some _ (Heap.get?_push_of_some _ e)
  have hget : ((hp.push (kdv_tup [.int i tk0])).push (excO C hp.objs.size)).get? (hp.objs.size + 1) = some (excO C hp.objs.size) := by heap_get
  have hnx : K.lookup (hp.objs.size + 1) = none := by
    cases e : K.lookup (hp.objs.size + 1) with
    | none => rfl
    | some o =>
      have y : hp.get? (hp.objs.size + 1) = some o := X _ _ e
      exact absurd (Nat.lt_of_succ_lt (Heap.lt_size y)) (Nat.lt_irrefl _)
  refine call_own F.excBase_ValueError (fun Y => refsVE_contains Y bm hbm) (X _ _ hC) (looks_findIn X T.iC) (fun self => bind_fn X self T.tf) (by show 1 ≤ sizeLine; rw [sizeLine_eq]; decide) ?_
  refine init (s := ⟨(hp.push (kdv_tup [.int i tk0])).push (excO C hp.objs.size), g, dr, tk, os⟩) T (X.keeps k) (hlim.keeps k) (hG.keeps k) (hB.keeps k) hsu hbb hget hnx hroom hi hlen fun h' tk' dx t1 Y => ?_
  have old : ∀ b o, hp.get? b = some o → h'.get? b = some o := fun b o e => Y.keep b o (Nat.ne_of_lt (Nat.lt_succ_of_lt (Heap.lt_size e))) (k b o e)
  have big : hp.objs.size + 1 + 1 ≤ dx := by
    first
      | (simpa only [Heap.size_push] using Y.dbig)
      | exact Y.dbig
  exact ⟨rfl, hq h' tk' (hp.objs.size + 1) dx ⟨old, Nat.le_succ _, ⟨_, _, Y.obj, rfl, rfl, rfl, rfl⟩, Nat.le_trans (Nat.le_trans (Nat.le_succ _) (Nat.le_succ _)) big, Y.dne, Y.ns⟩⟩
end
end KbAt
set_option Elab.async false
set_option linter.all false
set_option maxRecDepth 100000
set_option maxHeartbeats 4000000
namespace KbAt
open PySem PySem.Spec PyProof.Rows L2 Kb
theorem relO_at {v : V} {u : Value} (r : RelV v u) (y : Str) : RelO (List.lookup y [(("at" : Str), v)]) (if y = "at" then some u else none) := by
  by_cases hw : y = "at"
  · rw [hw, if_pos rfl]
    have e : List.lookup ("at" : Str) [(("at" : Str), v)] = some v := by simp [List.lookup]
    rw [e]
    exact r
  · rw [if_neg hw]
    have e : (y == ("at" : Str)) = false := by simpa using hw
    have e2 : List.lookup y [(("at" : Str), v)] = none := by simp [List.lookup, e]
    rw [e2]
    trivial
/-- a number whose text fits -/
def Fits (i : Int) : Prop := i.natAbs.log2 < 1920 ∧ (("at " : Str) ++ (toString i : Str)).length ≤ sizeLine
theorem fits_of {i : Int} (h : i.natAbs.log2 < 1001) : Fits i := by
  have h1 := h
  refine ⟨Nat.lt_trans h1 (by decide), ?_⟩
  have e := int_text_length_le (k := 1001) (by decide) h1
  have e2 : (("at " : Str) ++ (toString i : Str)).length = 3 + (Str.ofString (toString i)).length := by
    show (("at " : Str) ++ (Str.ofString (toString i))).length = _
    rw [Str.length_append]
    rfl
  rw [e2, PySem.ofString_length, sizeLine_eq]
  omega
section
variable {X : Cx} {C f cc cda : Addr} {q nm : Str} {z : Ps}
/-- X(e) -/
def tMk (C : Addr) (ta : TA) : L2.St → Hp → XK → Prop := fun σ H Q => ta σ H fun vs H1 => ∃ i, vs = [.int i] ∧ Fits i ∧ ∀ d, H1 d = none → Q (.ref C) (some d) (upd H1 d (.xd [("at", .int i)]))
theorem pmk {a : Expr} {ta : TA} {p pos : Pos} {k : Nat} (T : Txt X.prog X.K C f cc cda q z) (hm : X.mg nm = some (.ref C)) (hs : X.mg "super" = none) (hr : Room (k + 1) X.A) (ha : PA X [a] ta) (hg : Gl X nm) (hdb : (nm == ("__debug__" : Str)) = false := by decide)
    (he : starEach (a :: []) X.env = (false, eval a X.env) :: starEach [] X.env := by rfl) (hpl : (backTo pos (starEach [] X.env)).any (·.1) = false := by rfl) :
    PMk X (.Call (.Name nm p) [a] [] pos) (tMk C ta) := by
  intro pins s σ H Q I h
  refine wpAny_Call_Name_kw (ld_glob I hg hm ?_ hdb)
  refine PySem.W.callWith_K (h₀ := X.base) I.ok.mod.kin T.kC (thn (ha.run pos pins s σ H _ I h) fun us s1 ⟨vs, H1, I1, r1, i, ev, hf, q1⟩ => ?_) he hpl
  subst ev
  refine ⟨I1.kIn, ?_⟩
  cases r1 with
  | @cons _ v' _ us' rv rn =>
    cases rn
    obtain ⟨tk0, ev⟩ : ∃ t : Tok, v' = Value.int i t := rv
    subst ev
    have rv : RelV (.int i) (Value.int i tk0) := ⟨tk0, rfl⟩
    have hlim := I1.nolimit
    obtain ⟨mb, hb1, hb2⟩ := I1.mod.blt
    have hG := I1.mod.glob.keeps I1.bk
    have hB := hb1.keeps I1.bk
    have hkin := I1.kIn
    obtain ⟨hp, g, dr, tk, os⟩ := s1
    refine wpAny_call (made T hkin hlim hG hB hs ((hb2 _ (by decide)).trans (by first | rfl | decide +kernel | kernel_rfl)) (by have := hr.dp; omega) hf.1 hf.2 fun h' tk' e d M => ?_)
    show MkP X pins σ Q (.ref e) ⟨h', g, dr, tk', os⟩
    obtain ⟨oe, fv, hoe, hc, hd, hdat, h1⟩ := M.obj
    have hns := M.ns
    obtain ⟨G', g1, g2⟩ := restrict h' fun b => decide (b ≠ e)
    have gk : ∀ b, b ≠ e → G'.get? b = h'.get? b := fun b hb => g1 b (decide_eq_true hb)
    have ge : G'.get? e = none := g2 e (by simp)
    have old : ∀ b o, hp.get? b = some o → G'.get? b = some o := fun b o y => (gk b (Nat.ne_of_lt (Nat.lt_of_lt_of_le (Heap.lt_size y) M.new))).trans (M.keep b o y)
    have ob : ObjOk X.prog X.w (upd H1 d (.xd [(("at" : Str), .int i)])) G' d (.xd [(("at" : Str), .int i)]) :=
      ⟨_, hns.at (fun o y => (gk d M.dne).trans y), fun y => relO_at rv y⟩
    have J : Inv X pins σ (upd H1 d (.xd [(("at" : Str), .int i)])) ⟨G', g, dr, tk', os⟩ := I1.laid (t' := tk') old M.dbig ob
    refine ⟨e, oe, fv, ⟨G', g, dr, tk', os⟩, _, .ref C, some d, rfl, J, fun b o y => ?_, ge, hoe, ⟨hc, hd⟩, hdat, h1, ?_, rfl, I1.bare, raises_own T.exC T.tyC, q1 d (I1.hok.fresh M.dbig)⟩
    · by_cases hb : b = e
      · have y' : G'.get? b = some o := y
        rw [hb, ge] at y'
        cases y'
      · exact (gk b hb).symm.trans y
    · rw [upd_ne (Ne.symm M.dne)]
      exact I1.hok.fresh M.new
/-- told.at, told an exception of the class C that was caught, held as a value; its dict at d -/
def tAt (K : PySem.W.Frag) (te : TE) : TE := fun σ H Q => te σ H fun x H1 => ∃ (a C d : Addr) (v : V), x = .ref a ∧ H1 a = some (ExV (.ref C) (some d) a) ∧ H1 d = some (.xd [("at", v)]) ∧ PySem.W.findIn K (.ref C) "__getattribute__" = some (some (.builtin "BaseException.__getattribute__")) ∧
  PySem.W.findIn K (.ref C) "__getattr__" = some none ∧ PySem.W.findIn K (.ref C) "at" = some none ∧ PySem.W.hasDictIn K C = true ∧ PySem.W.subIn K (.ref C) (.type "BaseException") = some true ∧ Q v H1
theorem pe_at {e : Expr} {te : TE} {pos : Pos} (he : PE X e te) (hb : attributeBase e "at" X.env (eval e X.env) = eval e X.env := by rfl) : PE X (.Attribute e "at" pos) (tAt X.K te) := by
  refine ⟨fun pins s σ H Q I h => ?_⟩
  refine attr_of hb (thn (he.run pins s σ H _ I h) fun u s1 ⟨x, H1, I1, rx, a, C, d, v, ex, ha, ed, ga, gg, gn, hdC, exC, q⟩ => ?_)
  subst ex
  obtain rfl : u = Value.ref a := rx
  obtain ⟨⟨oe, vs, hget, hz, hd⟩, _, _⟩ := I1.hok a _ ha
  have hx : ObjOk X.prog X.w H1 s1.heap d (.xd [(("at" : Str), v)]) := I1.hok d _ ed
  obtain ⟨mA, hns, hr⟩ := hx
  obtain ⟨od, ho, hl⟩ := lookIn_ns hns
  have l : List.lookup ("at" : Str) [(("at" : Str), v)] = some v := by simp [List.lookup]
  obtain ⟨u, hu, ru⟩ := RelO.some_of (v := v) (o := mA "at") (by rw [← l]; exact hr "at")
  have J : PySem.W.InstAt s1.heap a oe C (some od) := ⟨hget, hz.1, by unfold PySem.W.notCls; rw [hd] <;> rfl, by rw [hz.2]; exact ho⟩
  exact HandSPX.exc_get I1.kIn J ga gg exC (PySem.W.findObj_own hdC gn rfl (by rw [hl, hu])) (handed_of ru) ⟨v, H1, I1.tok _, ru, q⟩
/-- isinstance(e, c), e an exception with a dict of its own, held as a value -/
def rIsD (K : PySem.W.Frag) : List V → Hp → VK → Prop := fun xs H Q => ∃ (a D d : Addr) (fs : List (Str × V)) (c : V) (cv : Value) (b : Bool), xs = [.ref a, c] ∧ H a = some (ExV (.ref D) (some d) a) ∧ H d = some (.xd fs) ∧ ExcC K D ∧ (∀ u, RelV c u → u = cv) ∧ PySem.W.kitOne K (.ref D) cv = some b ∧ Q (.bl b) H
theorem call_isD : CallR X (.builtin "isinstance") (rIsD X.K) := by
  intro pins s σ H xs us Q I r h
  obtain ⟨a, D, d, fs, c, cv, b, rfl, ha, hd, C, hcv, e, q⟩ := h
  cases r with
  | cons rx rr =>
    cases rr with
    | cons rt rr =>
      cases rr
      cases rx
      have ec := hcv _ rt
      subst ec
      obtain ⟨⟨oe, vs, hget, hz, hv⟩, _, _⟩ := I.hok a _ ha
      have hx : ObjOk X.prog X.w H s.heap d (.xd fs) := I.hok d _ hd
      obtain ⟨mA, hns, hr⟩ := hx
      obtain ⟨od, ho, _⟩ := lookIn_ns hns
      have J : PySem.W.InstAt s.heap a oe D (some od) := ⟨hget, hz.1, by unfold PySem.W.notCls; rw [hv] <;> rfl, by rw [hz.2]; exact ho⟩
      have hcl : (PySem.W.clsIn X.K D).isSome = true := by
        obtain ⟨cd, hc, _⟩ := PySem.W.any_some C.hd
        rw [hc]
        rfl
      exact PySem.W.kia_one (PySem.W.kitx_exc hcl C.hg C.hk C.hs C.ha C.hn C.ht C.hm) I.kIn J e (fun z => nomatch z) fun tk => ⟨.bl b, H, I.kept (t' := tk) fun _ _ z => z, rfl, q⟩
end
end KbAt
set_option Elab.async false
set_option linter.all false
set_option maxRecDepth 100000
set_option maxHeartbeats 4000000
/-! the head's facts with defs that close over their class -/
namespace KbHk
open PySem PySem.W PySem.Calls PyProof.Rows L2 Kb
abbrev FnC : Type := Option (Str × Str × Arguments × FuncBody × Scope × Addr × Addr)
/-- a def but for what it closes over -/
def fnC (K : Frag) (p : Str × Option Str) : FnC := match K.lookup (He.fAd K p) with
  | some ⟨_, _, .func fd, _⟩ => some (fd.name, fd.qualname, fd.params, fd.body, fd.scope, fd.globals, fd.builtins)
  | _ => none
/-- what is reached, the statics too -/
def asS (g : Addr → Option Obj) (n : Nat) : List Addr := cStatics :: He.asD g n
def obsS (n : Nat) (fa : List He.Fa) (fn : List He.DefD) (ts : List He.Tab) (tf : List He.Defn) (ex : Frag → Bool) (g : Addr → Option Obj) : He.AlX := (He.obsT fa fn ts (He.frT g (asS g n)), ex (He.frT g (asS g n)) && He.tabsB g tf (He.frT g (asS g n)))
theorem says_of {n : Nat} {fa : List He.Fa} {fn : List He.DefD} {ts : List He.Tab} {tf : List He.Defn} {ex : Frag → Bool} {w : World} {h : Heap} (e : obsS n fa fn ts tf ex h.get? = He.valX fn ts w) : He.SaysX fa fn ts tf ex w h (He.frT h.get? (asS h.get? n)) := by
  have e1 : He.obsT fa fn ts (He.frT h.get? (asS h.get? n)) = He.valT fn ts w := congrArg Prod.fst e
  have e2 : (ex (He.frT h.get? (asS h.get? n)) && He.tabsB h.get? tf (He.frT h.get? (asS h.get? n))) = true := congrArg Prod.snd e
  obtain ⟨h1, h2⟩ := Bool.and_eq_true_iff.mp e2
  have key : ∀ p ∈ tf, codeHdIn (He.frT h.get? (asS h.get? n)) (He.cT (He.frT h.get? (asS h.get? n)) p).1 (He.cT (He.frT h.get? (asS h.get? n)) p).2 = true ∧ ∃ o, h.get? (He.cT (He.frT h.get? (asS h.get? n)) p).2 = some o ∧ He.emptyTab o = true := fun p hp => by
    obtain ⟨h3, h4⟩ := Bool.and_eq_true_iff.mp (List.all_eq_true.mp h2 p hp)
    cases q : h.get? (He.cT (He.frT h.get? (asS h.get? n)) p).2 with
    | none =>
      rw [q] at h4
      cases h4
    | some o =>
      rw [q] at h4
      exact ⟨h3, o, rfl, h4⟩
  refine ⟨e1, h1, fun p hp => (key p hp).1, fun p hp => ?_, fun p hp => ?_⟩
  · obtain ⟨_, o, q, y⟩ := key p hp
    exact He.frT_none q y
  · obtain ⟨_, o, q, y⟩ := key p hp
    rw [q, He.emptyTab_eq y]
def hookM (n : Nat) (fa : List He.Fa) (fn : List He.DefD) (ts : List He.Tab) (tf : List He.Defn) (ex : Frag → Bool) (ms : List (Str × Option Str)) (mv : List FnC) : Hook where
  α := He.AlX × List FnC
  obs := fun s => (obsS n fa fn ts tf ex s.heap.get?, ms.map fun p => fnC (He.frT s.heap.get? (asS s.heap.get? n)) p)
  val := fun w => (He.valX fn ts w, mv)
  says := fun w h => ∃ K : Frag, K.In h ∧ He.SaysX fa fn ts tf ex w h K ∧ ms.map (fnC K) = mv
  of := fun _ _ e => ⟨_, He.frT_in, says_of (congrArg Prod.fst e), congrArg Prod.snd e⟩
  keeps := fun _ _ _ ⟨K, hK, c, e⟩ k => ⟨K, Frag.In.keeps hK k, ⟨c.t, c.more, c.hd, c.out, fun p hp => k _ _ (c.empty p hp)⟩, e⟩
/-! ### an error class with at -/
def clsB (K : Frag) (C : Addr) : Bool := match K.lookup C with
  | some ⟨.type t, _, .cls cd, sl⟩ => decide (t = "type") && (match cd.mro, sl.toList with
    | .ref C' :: bm, [_, _, _, _, some (.builtin n), _] => decide (C' = C) && (decide (n = "ValueError.__new__") && (cd.hasDict && (!cd.hasDel && (HandSPX.refsVE bm && He.eqO (alongIn K "__init__" bm) (some (some (.builtin "ValueError.__init__")))))))
    | _, _ => false)
  | _ => false
def noneB : Value → Bool
  | .none => true
  | _ => false
def fileB (K : Frag) (file : Str) (a : Addr) : Bool := match K.lookup a with
  | some ⟨_, _, .fields vs, _⟩ => (match vs.toList with
    | _ :: _ :: .str fl _ :: _ => file == fl
    | _ => false)
  | _ => false
def cellB (K : Frag) (cc C : Addr) : Bool := match K.lookup cc with
  | some ⟨_, _, .cell (some (.ref D)), _⟩ => decide (D = C)
  | _ => false
def cloB (K : Frag) (file q : Str) (C f : Addr) : Bool := match K.lookup f with
  | some ⟨_, _, .func fd, _⟩ => (match fd.closure, fd.code with
    | [(x, cc)], .ref cda => decide (x = "__class__") && (noneB fd.defaults && (codeIn K (.ref cda) q && (fileB K file cda && cellB K cc C)))
    | _, _ => false)
  | _ => false
def atB (K : Frag) (file q : Str) (C f : Addr) : Bool := clsB K C && (cloB K file q C f && (He.eqO (findIn K (.ref C) "__setattr__") (some (some (.builtin "object.__setattr__"))) && (He.eqO (findIn K (.ref C) "at") (some none) && (He.eqO (findIn K (.ref C) "__init__") (some (some (.ref f))) &&
  (decide (typeIn K (.ref f) = some (.type "function")) && (keepIn K (.ref C) && (decide (subIn K (.ref C) (.type "BaseException") = some true) && (decide (subIn K (.ref C) (.type "ValueError") = some true) && (decide (mroIn K C (.ref C) = some true) && (decide (typeIn K (.ref C) = some (.type "type")) && He.eqO (nsIn K cStatics "thirdparty.any") (some none)))))))))))
theorem cls_ok {K : Frag} {C : Addr} (h : clsB K C = true) : ∃ nm qn N bs bm sn sub ab col dd k0 k1 k2 k3 k5, K.lookup C = some (excClassObj nm qn C N bs bm true sn sub ab col dd k0 k1 k2 k3 k5 "ValueError.__new__") ∧ HandSPX.refsVE bm = true ∧ alongIn K "__init__" bm = some (some (.builtin "ValueError.__init__")) := by
  unfold clsB at h
  split at h
  · rename_i t dd cd sl hl
    obtain ⟨h1, h2⟩ := Bool.and_eq_true_iff.mp h
    have h1 := of_decide_eq_true h1
    subst h1
    split at h2
    · rename_i C' bm k0 k1 k2 k3 n k5 hm hs
      obtain ⟨h3, h2⟩ := Bool.and_eq_true_iff.mp h2
      obtain ⟨h4, h2⟩ := Bool.and_eq_true_iff.mp h2
      obtain ⟨h5, h2⟩ := Bool.and_eq_true_iff.mp h2
      obtain ⟨h6, h2⟩ := Bool.and_eq_true_iff.mp h2
      obtain ⟨h7, h8⟩ := Bool.and_eq_true_iff.mp h2
      have h3 := of_decide_eq_true h3
      have h4 := of_decide_eq_true h4
      subst h3 h4
      have hsl : sl = #[k0, k1, k2, k3, some (.builtin "ValueError.__new__"), k5] := by
        rw [← Array.toArray_toList (xs := sl), hs]
      obtain ⟨nm, bs, mro, N, qn, hd, sn, sub, ab, col, del⟩ := cd
      dsimp only at hm h5 h6
      subst hm h5
      have h6 : del = false := by simpa using h6
      subst h6 hsl
      exact ⟨nm, qn, N, bs, bm, sn, sub, ab, col, dd, k0, k1, k2, k3, k5, hl, h7, He.eqO_ok h8⟩
    · cases h2
  · cases h
theorem file_ok {K : Frag} {file : Str} {a : Addr} (h : fileB K file a = true) : ∃ c d vs sl fl t, K.lookup a = some ⟨c, d, .fields vs, sl⟩ ∧ vs[2]? = some (.str fl t) ∧ (file == fl) = true := by
  unfold fileB at h
  split at h
  · rename_i c d vs sl hl
    split at h
    · rename_i a0 a1 fl t r he
      refine ⟨c, d, vs, sl, fl, t, hl, ?_, h⟩
      rw [← Array.getElem?_toList, he]
      rfl
    · cases h
  · cases h
theorem cell_ok {K : Frag} {cc C : Addr} (h : cellB K cc C = true) : ∃ c d sl, K.lookup cc = some ⟨c, d, .cell (some (.ref C)), sl⟩ := by
  unfold cellB at h
  split at h
  · rename_i c d D sl hl
    have := of_decide_eq_true h
    subst this
    exact ⟨c, d, sl, hl⟩
  · cases h
theorem none_ok {v : Value} (h : noneB v = true) : v = .none := by
  cases v <;> first | rfl | cases h
theorem txt_of {P : Program} {K : Frag} {p : Str × Option Str} {C : Addr} {q : Str} {z : KbAt.Ps} (h : atB K P.main.file q C (He.fAd K p) = true) (e : fnC K p = (some (("__init__" : Str), q, KbAt.prm z, FuncBody.stmts [KbAt.s1 z, KbAt.s2 z], KbAt.sco, mainGlobals, builtinsNs) : FnC)) (hl : (z.p2.endLine == z.p7.line) = true) (ht : (P.main.scope.names.lookup ("super" : Str)).isSome = false) :
    ∃ cc cda, KbAt.Txt P K C (He.fAd K p) cc cda q z := by
  obtain ⟨h1, h⟩ := Bool.and_eq_true_iff.mp h
  obtain ⟨h2, h⟩ := Bool.and_eq_true_iff.mp h
  obtain ⟨h3, h⟩ := Bool.and_eq_true_iff.mp h
  obtain ⟨h4, h⟩ := Bool.and_eq_true_iff.mp h
  obtain ⟨h5, h⟩ := Bool.and_eq_true_iff.mp h
  obtain ⟨h6, h⟩ := Bool.and_eq_true_iff.mp h
  obtain ⟨h7, h⟩ := Bool.and_eq_true_iff.mp h
  obtain ⟨h8, h⟩ := Bool.and_eq_true_iff.mp h
  obtain ⟨h9, h⟩ := Bool.and_eq_true_iff.mp h
  obtain ⟨h10, h⟩ := Bool.and_eq_true_iff.mp h
  obtain ⟨h11, h12⟩ := Bool.and_eq_true_iff.mp h
  unfold cloB at h2
  unfold fnC at e
  split at h2
  · rename_i oc od fd osl hf
    rw [hf] at e
    split at h2
    · rename_i x cc cda hcl hco
      obtain ⟨g1, h2⟩ := Bool.and_eq_true_iff.mp h2
      obtain ⟨g2, h2⟩ := Bool.and_eq_true_iff.mp h2
      obtain ⟨g3, h2⟩ := Bool.and_eq_true_iff.mp h2
      obtain ⟨g4, g5⟩ := Bool.and_eq_true_iff.mp h2
      have gn1 := of_decide_eq_true g1
      have gn2 := none_ok g2
      clear g1 g2
      obtain ⟨c1, c2, c3, c4, c5, c6, k1, k2, k3⟩ := file_ok g4
      refine ⟨cc, cda, cls_ok h1, He.eqO_ok h3, He.eqO_ok h4, He.eqO_ok h5, of_decide_eq_true h6, h7, of_decide_eq_true h8, of_decide_eq_true h9, of_decide_eq_true h10, of_decide_eq_true h11, He.eqO_ok h12, ?_, g3, ⟨c1, c2, c3, c4, c5, c6, k1, k2, k3⟩, cell_ok g5, hl, ht⟩
      obtain ⟨nm, qn, prm, bd, sc, gl, cl, df, kd, dc, pm, an, cdv, ct, bn⟩ := fd
      dsimp only at hcl hco gn1 gn2 e
      simp only [Option.some.injEq, Prod.mk.injEq] at e
      obtain ⟨e1, e2, e3, e4, e5, e6, e7⟩ := e
      subst hcl hco gn1 gn2 e1 e2 e3 e4 e5 e6 e7
      exact ⟨oc, od, kd, dc, pm, an, ct, osl, hf⟩
    · cases h2
  · cases h2
end KbHk
set_option Elab.async false
set_option linter.all false
set_option maxRecDepth 100000
set_option maxHeartbeats 4000000
/-! the law's def alone, run where no repr is under way: so repr of data at any depth has a rule -/
namespace KbRp
open PySem PySem.Spec PyProof.Rows L2 Kb
section
variable {X : Cx}
/-- repr(x), x data -/
def rRepr (K : PySem.W.Frag) : List V → Hp → VK → Prop := fun xs H Q => ∃ v d, xs = [v] ∧ Dp K H v d ∧ d.showable = true ∧ d.depth ≤ 64 ∧ d.shown.length ≤ sizeLine ∧ Q (.str d.shown) H
theorem noDict {K : PySem.W.Frag} {H : Hp} : ∀ {v : V} {d : PyData}, Dp K H v d → d.hasDict = false
  | _, .none, _ => rfl
  | _, .bool _, _ => rfl
  | _, .int _, _ => rfl
  | _, .str _, _ => rfl
  | _, .list ds, h => by
    cases h with
    | lst _ ha => exact go ha
  | _, .tuple ds, h => by
    cases h with
    | tup _ ha => exact go ha
  | _, .dict _, h => by cases h
where
  go {K : PySem.W.Frag} {H : Hp} : ∀ {vs : List V} {ds : List PyData}, DpAll K H vs ds → PyData.hasDictAll ds = false
    | _, [], _ => rfl
    | _, d :: ds, h => by
      cases h with
      | cons h1 h2 =>
        show (d.hasDict || PyData.hasDictAll ds) = false
        rw [noDict h1, go h2]
        rfl
theorem call_repr (hg : X.A.guards = some []) (hu : X.A.units + 66 < cLine) : CallR X (.builtin "repr") (rRepr X.K) := by
  intro pins s σ H xs us Q I r h
  obtain ⟨v, d, rfl, hd, hs, hdp, hz, q⟩ := h
  cases r with
  | cons r1 r2 =>
    cases r2
    rename_i u
    obtain ⟨as, rd⟩ := Dp.reads I d v u hd r1
    have hnd := noDict hd
    cases rd with
    | none => exact PySem.P.repr_of_none ⟨.str _, H, I.tok _, ⟨_, rfl⟩, q⟩
    | bool b => exact PySem.P.repr_of_bool ⟨.str _, H, I.tok _, ⟨_, by cases b <;> rfl⟩, q⟩
    | int i t => exact PySem.P.repr_of_int (of_decide_eq_true hs) ⟨.str _, H, I.tok _, ⟨_, rfl⟩, q⟩
    | str x t => exact PySem.P.repr_of_str ⟨.str _, H, I.tok _, ⟨_, rfl⟩, q⟩ hz
    | list h1 h2 h3 h4 => exact repr_of_reads' (.list h1 h2 h3 h4) hs (PyData.noDict_hsm hnd) hg (by omega) (fun _ _ e => e) (fun h' u tk hk => ⟨.str _, H, I.kept hk, ⟨_, rfl⟩, q⟩) hz
    | tuple h1 h2 h3 h4 => exact repr_of_reads' (.tuple h1 h2 h3 h4) hs (PyData.noDict_hsm hnd) hg (by omega) (fun _ _ e => e) (fun h' u tk hk => ⟨.str _, H, I.kept hk, ⟨_, rfl⟩, q⟩) hz
    | dict _ _ _ _ _ => cases hnd
end
/-! ### a def's run where no repr is under way -/
/-- a def's promise, kept where nothing is being shown -/
structure RunG (P : Program) (w : World) (K : PySem.W.Frag) (mg : Str → Option Value) (base : Heap) (k : Nat) (f : Addr) (fd : FuncData) (ps : List Str) (sp : Sp) : Prop where
  go : ∀ {A : Around} {outer : List Env} {s : Shared} {H : Hp} {args : Args} {us : List Value} {vs : List V} {Q : VK} {E : XK}, A.guards = some [] → Room k A → Env0 P w K mg base A outer s H → BindsTo s fd args (ps.zip us) → Vals vs us → sp vs H Q E → codeAny (model P w) A (.call (.ref f) args) (CR CX0 outer P w H s Q E) s
section
variable {P : Program} {w : World} {K : PySem.W.Frag} {mg : Str → Option Value} {base : Heap} {x qual : Str} {st : Stmt} {f c : Addr} {fd : FuncData} {N ps : List Str} {k : Nat} {sp : Sp}
theorem okG (F : Fun K x qual st f fd) (hc : fd.code = .ref c) (S : FnScope N ps (defScope st)) (len : ∀ vs H Q E, sp vs H Q E → vs.length = ps.length)
    (hbody : ∀ (A : Around) (outer : List Env) (s : Shared) (H : Hp) (vs : List V) (Q : VK) (E : XK), A.guards = some [] → Room k (A.deeper (envOfC qual (defScope st) s.heap.objs.size f (.ref c))) → sp vs H Q E →
      ∃ t, PSs (cxOf CX0 P w K mg base N qual (defScope st) f (.ref c) A outer s H E).nox (defBody st) t ∧ t { nx := fun _ H' => Q .non H', rt := Q } (start N vs) H) : RunG P w K mg base (k + 1) f fd ps sp := by
  obtain ⟨oc, od, kV, doc, pm, an, cdv, ct, osl, rfl, lk, hcd⟩ := F.ex
  obtain rfl : cdv = .ref c := hc
  refine ⟨fun {A outer s H args us vs Q E} hg hr e0 hb r hsp => ?_⟩
  have old : ∀ b o, base.get? b = some o → s.heap.get? b = some o := fun b o e => (e0.bs b o e).1
  have KX : K.In s.heap := e0.mod.kin.keeps old
  have kinds : ∀ y ∈ ps.zip us, (defScope st).names.lookup y.1 = some .local ∨ ((defScope st).names.lookup y.1 = some .cell ∧ ((cellsFrom (s.heap.objs.size + 1) (defScope st).names []).lookup y.1).isSome = true) := by
    intro y hy
    obtain ⟨n, v⟩ := y
    exact (S.par n (List.of_mem_zip hy).1).imp id fun q => ⟨q, PySem.W.cellsFrom_some _ _ _ (.inl q)⟩
  refine codeAny_call_function hr.depth (KX _ _ lk) rfl S.co S.gen rfl (PySem.W.codeRec_of KX hcd) (hb _ _ _ _ (wpAny_newFunctionEnv_cells S.kind kinds fun env he s1 x => ?_))
  subst he
  obtain ⟨t, ht, hq⟩ := hbody A outer s H vs Q E hg (hr.deeper _) hsp
  refine ⟨(e0.mod.nolimit.keeps old).keeps x.toInCall.keep, codeAny_func (wpAny_mono (ht.nox.run [] s1 (start N vs) H _ (inv_start S hr.hd e0 (len _ _ _ _ hsp) r x) hq) (fun fl s' hs => ?_) fun e s' hs => hs)⟩
  cases fl with
  | ret u =>
    obtain ⟨v, σ', H', J, rv, q⟩ := hs
    exact ⟨v, H', J.os, J.bare, J.base, J.hok, rv, q⟩
  | next =>
    obtain ⟨σ', H', J, q⟩ := hs
    exact ⟨.non, H', J.os, J.bare, J.base, J.hok, rfl, q⟩
  | brk =>
    obtain ⟨_, _, _, q⟩ := hs
    exact q.elim
  | cont =>
    obtain ⟨_, _, _, q⟩ := hs
    exact q.elim
end
end KbRp
set_option Elab.async false
set_option linter.all false
set_option maxRecDepth 100000
set_option maxHeartbeats 4000000
/-! a law's end whose def asks repr -/
namespace KbRp
open PySem PySem.Spec PyProof.Rows L2 Kb LamX
/-- what is tracked ahead of the law: tables, and the script unless it is written -/
def ahead (T : List Addr) (own : Bool) (a : Addr) (o : Obj) (xs : List V) : Hp := fun b => if b ∈ T then some (.tbl #[]) else if own = true ∧ b = a then some (.frz o (.lst xs)) else none
theorem ahead_in {T : List Addr} {own : Bool} {a b : Addr} {o : Obj} {xs : List V} {u : HO} (h : ahead T own a o xs b = some u) : (b ∈ T ∧ u = .tbl #[]) ∨ (b ∉ T ∧ own = true ∧ b = a ∧ u = .frz o (.lst xs)) := by
  unfold ahead at h
  by_cases h1 : b ∈ T
  · rw [if_pos h1] at h
    exact .inl ⟨h1, (Option.some.inj h).symm⟩
  · rw [if_neg h1] at h
    by_cases h2 : own = true ∧ b = a
    · rw [if_pos h2] at h
      exact .inr ⟨h1, h2.1, h2.2, (Option.some.inj h).symm⟩
    · rw [if_neg h2] at h
      cases h
section
variable {P : Program} {w : World} {K : PySem.W.Frag} {mg mb : Str → Option Value} {k : Nat} {fa a : Addr} {cs : List (Addr × Addr)} {fd : FuncData} {x : Str} {sp : Sp} {s₁ : Shared} {vs : List Value} {ns : List Int}
theorem law_callG (KX : K.In s₁.heap) (gm : s₁.heap.Ns mainGlobals mg) (gb : s₁.heap.Ns builtinsNs mb) (hbb : ∀ x : Str, x ≠ "__name__" → mb x = bootBuiltins x) (hlim : s₁.heap.NoLimit) (hg : s₁.gens = #[])
    (hT : ∀ p ∈ cs, s₁.heap.get? p.2 = some { cls := .none, data := .fields #[] }) (nT : ∀ p ∈ cs, K.lookup p.2 = none) (C : ∀ p ∈ cs, PySem.W.CodeHd s₁.heap p.1 p.2)
    (hbm : ∃ (bm : Addr) (ob : Obj), mg "__builtins__" = some (.ref bm) ∧ bm ≠ builtinsNs ∧ s₁.heap.get? bm = some ob ∧ ob.cls = .type "module" ∧ ob.dict = some builtinsNs ∧ ob.data = .plain)
    (ha : s₁.heap.get? a = some { cls := .type "list", data := .seq vs.toArray }) (hi : IntsAre vs ns) (hl : ns.length ≤ sizeLine) (hr : Room k callerA)
    (F : ∀ base : Heap, K.In base → base.Ns mainGlobals mg → (∀ p ∈ cs, TabB base mg p.1 p.2) → RunG P w K mg base k fa fd [x] sp) (hbind : ∀ (s : Shared) (u : Value), BindsTo s fd ⟨[u], []⟩ [(x, u)])
    (hsp : ∀ H : Hp, (∀ p ∈ cs, H p.2 = some (.tbl #[])) → SqL K H a (ns.map V.int) → sp [.ref a] H (fun v _ => v = .bl true) fun _ _ _ => False) :
    codeAny (model P w) callerA (.call (.ref fa) ⟨[.ref a], []⟩) (fun r s' => r = .ok (.ret (.bool true)) ∧ OldK s₁.heap s'.heap ∧ s'.os = s₁.os ∧ AllBare s'.gens) s₁ := by
  obtain ⟨T, eT⟩ : ∃ T, T = cs.map (·.2) := ⟨_, rfl⟩
  have inT : ∀ p ∈ cs, p.2 ∈ T := fun p hp => eT ▸ List.mem_map_of_mem hp
  have ofT : ∀ b ∈ T, ∃ p ∈ cs, p.2 = b := fun b hb => by
    rw [eT] at hb
    obtain ⟨p, hp, e⟩ := List.mem_map.mp hb
    exact ⟨p, hp, e⟩
  have tab : ∀ b ∈ T, s₁.heap.get? b = some { cls := .none, data := .fields #[] } := fun b hb => by
    obtain ⟨p, hp, e⟩ := ofT b hb
    exact e ▸ hT p hp
  have aT : a ∉ T := fun z => by
    have q := ha.symm.trans (tab a z)
    cases q
  have rv := vals_ints hi
  have len : (ns.map V.int).length ≤ sizeLine := by rw [List.length_map]; exact hl
  obtain ⟨own, eo⟩ : ∃ own : Bool, own = (K.lookup a).isNone := ⟨_, rfl⟩
  obtain ⟨H, eH⟩ : ∃ H, H = ahead T own a { cls := .type "list", data := .seq vs.toArray } (ns.map V.int) := ⟨_, rfl⟩
  have hin : ∀ {b : Addr} {u : HO}, H b = some u → (b ∈ T ∧ u = .tbl #[]) ∨ (b ∉ T ∧ own = true ∧ b = a ∧ u = .frz { cls := .type "list", data := .seq vs.toArray } (.lst (ns.map V.int))) := fun {b u} e => ahead_in (eH ▸ e)
  have hTb : ∀ p ∈ cs, H p.2 = some (.tbl #[]) := fun p hp => by
    rw [eH]
    exact if_pos (inT p hp)
  -- what is untracked: all whose data are neither a list nor no fields
  have free : ∀ {b : Addr} {o : Obj}, s₁.heap.get? b = some o → (∀ vs n, o.data = .seq vs n → False) → (o.data = .fields #[] → False) → H b = none := fun {b o} e h1 h2 => by
    cases q : H b with
    | none => rfl
    | some u =>
      rcases hin q with ⟨m, _⟩ | ⟨_, _, m, _⟩
      · have z := e.symm.trans (tab b m)
        cases z
        exact (h2 rfl).elim
      · subst m
        have z := e.symm.trans ha
        cases z
        exact (h1 _ _ rfl).elim
  have ns' : ∀ {b : Addr} {m : Str → Option Value}, s₁.heap.Ns b m → (hidT s₁.heap H).Ns b m := fun {b m} ⟨o, es, ep, e, d, r⟩ =>
    ⟨o, es, ep, hidT_get e (free e (fun _ _ z => by rw [d] at z; cases z) fun z => by rw [d] at z; cases z), d, r⟩
  have KB : K.In (hidT s₁.heap H) := fun b o e => hidT_get (KX b o e) (by
    cases q : H b with
    | none => rfl
    | some u =>
      rcases hin q with ⟨m, _⟩ | ⟨_, w1, m, _⟩
      · obtain ⟨p, hp, ep⟩ := ofT b m
        rw [← ep, nT p hp] at e
        cases e
      · rw [eo, Option.isNone_iff_eq_none] at w1
        rw [m, w1] at e
        cases e)
  have M : L2.Mod K mg (hidT s₁.heap H) := ⟨KB, ns' gm, ⟨mb, ns' gb, hbb⟩, hlim.elim fun mc hm => ⟨mc, ns' hm.1, hm.2⟩⟩
  have TB : ∀ p ∈ cs, TabB (hidT s₁.heap H) mg p.1 p.2 := fun p hp => by
    have t := hT p hp
    constructor
    · obtain ⟨o, us, file, tf, flags, tg, inF, text, tt, e1, r1, r2, r3, rs⟩ := C p hp
      refine ⟨o, us, file, tf, flags, tg, inF, text, tt, hidT_get e1 (free e1 (fun _ _ z => ?_) fun z => ?_), r1, r2, r3, rs⟩
      · rw [r2] at z
        cases z
      · rw [r2] at z
        cases z
        simp at r3
    · obtain ⟨bm, ob, b1, b2, b3, b4, b5, b6⟩ := hbm
      refine ⟨bm, ob, b1, b2, fun q => ?_, fun q => ?_, hidT_get b3 (free b3 (fun _ _ z => ?_) fun z => ?_), b4, b5, b6⟩
      · obtain ⟨o, es, ep, e, hd, _⟩ := gm
        rw [q] at b3
        have z := b3.symm.trans e
        cases z
        rw [hd] at b6
        cases b6
      · rw [q] at b3
        have z := b3.symm.trans t
        cases z
        cases b6
      · rw [b6] at z
        cases z
      · rw [b6] at z
        cases z
    · intro z
      obtain ⟨o, es, ep, e, hd, _⟩ := gm
      rw [z] at e
      have q := e.symm.trans t
      cases q
      cases hd
  have hok : HOk P w H s₁.heap := fun b u e => by
    rcases hin e with ⟨m, rfl⟩ | ⟨_, _, rfl, rfl⟩
    · exact tab b m
    · exact ⟨ha, len, vs, _, rv, ha⟩
  have E0 : Env0 P w K mg (hidT s₁.heap H) callerA [] s₁ H := ⟨rfl, M, fun _ _ e => of_hidT e, Nat.le_of_eq (hidT_size _ _), trivial, (fun b hb => absurd (show b ∈ ([] : List Addr) from hb) List.not_mem_nil), hok, AllBare.of_eq hg⟩
  have S : SqL K H a (ns.map V.int) := by
    cases q : K.lookup a with
    | none =>
      refine .inl (.inr ⟨{ cls := .type "list", data := .seq vs.toArray }, ?_⟩)
      rw [eH]
      exact (if_neg aT).trans (if_pos ⟨by rw [eo, q]; rfl, rfl⟩)
    | some o =>
      have z := (KX a o q).symm.trans ha
      cases z
      exact .inr ⟨_, vs.toArray, _, q, rfl, rfl, rfl, by rw [List.size_toArray, ← rv.length]; exact len, rv⟩
  refine codeAny_mono ((F _ KB (ns' gm) TB).go (args := ⟨[.ref a], []⟩) (us := [.ref a]) (vs := [.ref a]) rfl hr E0 (hbind s₁ (.ref a)) (.cons rfl .nil) (hsp H hTb S)) fun r s' h => ?_
  cases r with
  | error e => exact h.elim
  | ok fl =>
    cases fl with
    | next => exact h.elim
    | brk => exact h.elim
    | cont => exact h.elim
    | ret u =>
      obtain ⟨v, H', os, bare, un, hok', rl, rfl⟩ := h
      obtain rfl : u = Value.bool true := rl
      have kept : ∀ b o, b ∉ T → s₁.heap.get? b = some o → s'.heap.get? b = some o := fun b o nb e => by
        cases q : H b with
        | none => exact un.keep b o e q (fun z => by cases z) (fun z => by cases z)
        | some u =>
          rcases hin q with ⟨m, _⟩ | ⟨_, _, rfl, rfl⟩
          · exact absurd m nb
          · have z := (hok _ _ q).1
            have z' := (hok' _ _ (un.frzs _ _ _ q)).1
            rw [e] at z
            rw [z', ← z]
      refine ⟨rfl, ⟨fun b o e => ?_, fun b o e => ?_⟩, os, bare⟩
      · by_cases m : b ∈ T
        · obtain ⟨p, hp, rfl⟩ := ofT b m
          obtain ⟨more, z⟩ := un.tbls p.2 #[] (hTb p hp)
          have z := hok' p.2 _ z
          have q := e.symm.trans (hT p hp)
          cases q
          exact .inr (.inl ⟨((C p hp).tab (hT p hp)).isCodeTable, rfl, #[], more, rfl, by rw [Array.empty_append] at z ⊢; exact z⟩)
        · exact .inl (kept b o m e)
      · by_cases m : b ∈ T
        · obtain ⟨p, hp, rfl⟩ := ofT b m
          obtain ⟨more, z⟩ := un.tbls p.2 #[] (hTb p hp)
          exact ⟨_, hok' p.2 _ z⟩
        · exact ⟨o, kept b o m e⟩
end
/-- of a law's promise at the head's heap, the def run where nothing is being shown -/
def LawG (l : PySem.W.OpenLaw) (w : World) (K : PySem.W.Frag) (k n : Nat) (x : Str) (mg : Str → Option Value) (fa : Addr) (h : Heap) : Prop :=
  ∃ (fd : FuncData) (cs : List (Addr × Addr)) (sp : Sp), ((∀ p ∈ cs, h.get? p.2 = some { cls := .none, data := .fields #[] }) ∧ (∀ p ∈ cs, K.lookup p.2 = none) ∧ ∀ p ∈ cs, PySem.W.CodeHd h p.1 p.2) ∧ (∀ (s : Shared) (u : Value), BindsTo s fd ⟨[u], []⟩ [(x, u)]) ∧
    (∀ (H : Hp) (a : Addr) (ns : List Int), ns.length ≤ n → (∀ z ∈ ns, Builtin.Int.intBits z ≤ 1048576) → (∀ p ∈ cs, H p.2 = some (.tbl #[])) → SqL K H a (ns.map V.int) → sp [.ref a] H (fun v _ => v = .bl true) fun _ _ _ => False) ∧
    ∀ base : Heap, K.In base → base.Ns mainGlobals mg → (∀ p ∈ cs, TabB base mg p.1 p.2) → RunG l.prog w K mg base k fa fd [x] sp
theorem walkG {l : PySem.W.OpenLaw} {n k : Nat} {q : Program} {loose : List Str} {XP : (Str → Option Value) → Heap → Prop} {YP : World → Heap → Prop} {d : DefRec} {x : Str}
    (hn : l.most = some n) (hn2 : n ≤ sizeLine) (hdf : d.params.defaults = []) (hr : Room k callerA)
    (F : ∀ (w : World) (mg : Str → Option Value) (fa : Addr) (h : Heap), YP w h → h.Ns mainGlobals mg → mg d.name = some (.ref fa) → ∃ K : PySem.W.Frag, K.In h ∧ LawG l w K k n x mg fa h) :
    PySem.W.WalkO q loose XP YP l.row.toRowW d [] (fun f vs => PySem.call f vs) := by
  refine Att.attach_callB hn hdf fun w s₀ s₁ mg mb fa o pm cd doc a vs ns G Y _ _ _ hmg ho hi hlen hbits hg => ?_
  obtain ⟨K, KX, fd, cs, sp, ⟨c1, c2, c3⟩, hb, hs, hF⟩ := F w mg fa _ Y G.T.g hmg
  exact law_callG KX G.T.g G.T.b G.T.builtins G.T.nolimit hg c1 c2 c3 G.T.bmain ho hi (Nat.le_trans hlen hn2) hr hF hb fun H t S => hs H a ns hlen hbits t S
end KbRp
set_option Elab.async false
set_option linter.all false
set_option maxRecDepth 100000
set_option maxHeartbeats 2000000
namespace Fx
open PySem PySem.Spec PyProof.Rows L2 Kb LamX NdefX
variable [Nm]
/-! ### isinstance(error, X) -/
/-- the classes of errors es, told apart by sub -/
structure ErrC (K : PySem.W.Frag) (es : List Str) (sub : Str → Str → Bool) : Prop where
  exc : ∀ c ∈ es, ExcC K (Nm.adr c)
  link : ∀ c ∈ es, PySem.W.exmOne K (.ref (Nm.adr c)) (.ref (Nm.adr "LinkError")) = some true
  kit : ∀ c ∈ es, ∀ x ∈ es, PySem.W.kitOne K (.ref (Nm.adr c)) (.ref (Nm.adr x)) = some (sub c x)
def gIsE (es : List Str) (sub : Str → Str → Bool) (x : Str) : PyData → Option PyData
  | .dict ((.bool true, .str c) :: _) => if c ∈ es then some (.bool (sub c x)) else none
  | _ => none
theorem Dt.exc_inv {S : List Addr} {H : Hp} {v : V} {c : Str} {r : List (PyData × PyData)} (h : Dt S H v (.dict ((.bool true, .str c) :: r))) :
    ∃ a, v = .ref a ∧ ((H a = some (ExV (.ref (Nm.adr c)) none a) ∧ r = []) ∨ ∃ d kv, H a = some (ExV (.ref (Nm.adr c)) (some d) a) ∧ d ∉ S ∧ H d = some (.xd kv) ∧ DtX S H kv r) := by
  generalize e : PyData.dict ((.bool true, .str c) :: r) = dd at h
  cases h with
  | dct _ _ hd =>
    cases hd with
    | nil => cases e
    | @cons k v vs d ds h r => cases k <;> cases e
  | dtt _ _ hd => cases e
  | exc ea => cases e; exact ⟨_, rfl, .inl ⟨ea, rfl⟩⟩
  | exd ea n q hx => cases e; exact ⟨_, rfl, .inr ⟨_, _, ea, n, q, hx⟩⟩
  | _ => cases e
theorem Sn.exc_inv {S : List Addr} {H : Hp} {v : V} {c : Str} {r : List (PyData × PyData)} (h : Sn S H v (.dict ((.bool true, .str c) :: r))) : Dt S H v (.dict ((.bool true, .str c) :: r)) := by
  generalize e : PyData.dict ((.bool true, .str c) :: r) = dd at h
  cases h with
  | dt h => exact h
  | l => cases e
  | m _ hd =>
    cases hd with
    | nil => cases e
    | @cons k v vs d ds h r => cases k <;> cases e
  | mt _ hd => cases e
section
variable {ι : Type} {X : ι → Cx} {C : Ct} {E : XK} {S : List Addr} {ρ : Env} {D : Dw} {σ : St} {H : Hp}
variable {a b c e : Expr} {es : List Expr} {pos p : Pos} {fa fb fc : EX} {aa : EA} {x : Str}
def rIsE (K : PySem.W.Frag) : List V → Hp → VK → Prop := fun xs H Q => rIsV K xs H Q ∨ KbAt.rIsD K xs H Q
theorem call_isE {X : Cx} : CallR X (.builtin "isinstance") (rIsE X.K) := call_isV.or KbAt.call_isD
theorem ve_isE {en : List Str} {sub : Str → Str → Bool} (Ec : ErrC C.G.K en sub) (hx : x ∈ en) (ha : VB X C E a fa) (hp : ∀ i_ ta, PE (X i_) a ta → PE (X i_) e (tCB (rIsE C.G.K) (tCons ta (tCons (tC (.ref (Nm.adr x))) tNil)))) : VE X C E e (Ev.u1 (gIsE en sub x) fa) := by
  obtain ⟨ta, pa, qa⟩ := ha.ex
  refine ⟨_, (fun i_ => hp i_ ta (pa i_)), fun S ρ D σ H F => ?_⟩
  show PostE C E S ρ σ H _ _ (fun Q => ta σ H fun v H1 => rIsE C.G.K [v, .ref (Nm.adr x)] H1 Q)
  refine PostE.bind (qa S ρ D σ H F) fun d D1 v H1 k1 F1 h1 => ?_
  refine ofO_post F1 fun res e Q hq => ?_
  unfold gIsE at e
  split at e
  · rename_i c r
    split at e
    · rename_i hc
      cases e
      obtain ⟨a, rfl, ⟨e1, _⟩ | ⟨d, kv, e1, _, e2, _⟩⟩ := (h1.sn F1).exc_inv.exc_inv
      · exact .inl ⟨a, _, _, _, _, rfl, e1, Ec.exc c hc, (fun u r => r), Ec.kit c hc x hx, hq _ _ .refl (.bl _)⟩
      · exact .inr ⟨a, _, d, _, _, _, _, rfl, e1, e2, Ec.exc c hc, (fun u r => r), Ec.kit c hc x hx, hq _ _ .refl (.bl _)⟩
    · cases e
  · cases e
/-! ### repr -/
def gRepr (d : PyData) : Option PyData := if plain d = true ∧ d.showable = true ∧ d.depth ≤ 64 ∧ d.shown.length ≤ sizeLine then some (.str d.shown) else none
theorem d_repr : DCl1 C (KbRp.rRepr C.G.K) gRepr := by
  intro S H v d res hx hS hr Q hq
  unfold gRepr at hr
  split at hr
  · rename_i h
    cases hr
    exact ⟨v, d, rfl, hx.dp h.1, h.2.1, h.2.2.1, h.2.2.2, hq _ _ .refl (.str _)⟩
  · cases hr
/-! ### calls by keywords -/
structure VK_ {ι : Type} (X : ι → Cx) (C : Ct) (E : XK) (es : List Keyword) (f : EA) : Prop where
  ex : ∃ t, (∀ i, PK (X i) es t) ∧ ∀ S ρ D σ H, Fm C S ρ D σ H → PostA C E S ρ σ H (f ρ D) (fun Q => t σ H Q)
theorem vk_nil : VK_ X C E [] Ev.nil := ⟨_, fun _ => pk_nil, fun S ρ D σ H F Q hq => hq [] H .refl F .nil⟩
theorem vk_cons {nm : Option Str} {kpos : Pos} {kws : List Keyword} (ha : VE X C E a fa) (hr : VK_ X C E kws aa) : VK_ X C E (⟨nm, a, kpos⟩ :: kws) (Ev.cons fa aa) := by
  obtain ⟨ta, pa, qa⟩ := ha.ex
  obtain ⟨tr, pr, qr⟩ := hr.ex
  refine ⟨_, (fun i => pk_cons (pa i) (pr i)), fun S ρ D σ H F => ?_⟩
  show PostA C E S ρ σ H ((fa ρ D).bind fun x D1 => (aa ρ D1).bind fun xs D2 => .ok (x :: xs) D2) (fun Q => ta σ H fun x H1 => tr σ H1 fun xs H2 => Q (x :: xs) H2)
  have A := qa S ρ D σ H F
  cases h1 : fa ρ D with
  | stuck => trivial
  | err c fs D1 => rw [h1] at A; exact fun e Q => A e _
  | ok d D1 =>
    rw [h1] at A
    simp only [bind_ok]
    have B := fun H1 (F1 : Fm C S ρ D1 σ H1) => qr S ρ D1 σ H1 F1
    cases h2 : aa ρ D1 with
    | stuck => trivial
    | err c fs D2 => rw [h2] at B; exact fun e Q => A _ fun x H1 k1 F1 b1 => B H1 F1 e _
    | ok ds D2 =>
      rw [h2] at B
      simp only [bind_ok]
      exact fun Q hq => A _ fun x H1 k1 F1 b1 => B H1 F1 _ fun us H2 k2 F2 b2 => hq (x :: us) H2 (k1.trans k2) F2 (.cons (b1.kp k2.s) b2)
/-- f(b = v, a = u) of a def of a, b -/
def _root_.Fx.Ev.sw2 (a : EA) : EA := fun ρ D => (a ρ D).bind fun ds D1 => match ds with
  | [x, y] => .ok [y, x] D1
  | _ => .stuck
theorem PostE.imp2 {P : V → Hp → PyData → Prop} {r : R PyData} {t u : VK → Prop} (h : PostE C E S ρ σ H P r t) (i : ∀ Q, t Q → u Q) : PostE C E S ρ σ H P r u := h.wk i
theorem ve_callK2s {kws : List Keyword} {F : List PyData → Dw → R PyData} (h : VK_ X C E kws aa) (hp : ∀ i_ tk, PK (X i_) kws tk → PE (X i_) e (L2.tCallN 0 2 (spF C.G false false 2 F) (fun _ zs => swap2 zs) E0 tNil tk)) : VE X C E e (Ev.call0 2 F (Ev.sw2 aa)) := by
  obtain ⟨t, p, q⟩ := h.ex
  refine ⟨_, fun i => hp i t (p i), fun S ρ D σ H F0 => ?_⟩
  show PostE C E S ρ σ H _ ((((aa ρ D).bind fun ds D1 => match ds with | [x, y] => .ok [y, x] D1 | _ => .stuck).bind fun ds D1 => if ds.length = 2 then (match F ds D1 with | .ok r _ => .ok r D1 | _ => .stuck) else .stuck : R PyData)) (fun Q => t σ H fun zs H2 => ([] : List V).length = 0 ∧ zs.length = 2 ∧ spF C.G false false 2 F (swap2 zs) H2 Q E0)
  have e1 : ((((aa ρ D).bind fun ds D1 => match ds with | [x, y] => .ok [y, x] D1 | _ => .stuck).bind fun ds D1 => if ds.length = 2 then (match F ds D1 with | .ok r _ => .ok r D1 | _ => .stuck) else .stuck : R PyData)) = (aa ρ D).bind fun ds D1 => match ds with | [x, y] => (match F [y, x] D1 with | .ok r _ => .ok r D1 | _ => .stuck) | _ => .stuck := by
    cases aa ρ D with
    | stuck => rfl
    | err c fs D1 => rfl
    | ok ds D1 =>
      match ds with
      | [] => rfl
      | [_] => rfl
      | [_, _] => rfl
      | _ :: _ :: _ :: _ => rfl
  rw [e1]
  refine PostA.bindE (q S ρ D σ H F0) fun ds D1 vs H1 k1 F1 h1 => ?_
  split
  · rename_i x y
    obtain ⟨u, v, rfl, hu, hv⟩ : ∃ u v, vs = [u, v] ∧ Dt S H1 u x ∧ Dt S H1 v y := by
      cases h1 with
      | cons hu r => cases r with
        | cons hv r => cases r; exact ⟨_, _, rfl, hu, hv⟩
    cases hF : F [y, x] D1 with
    | stuck => trivial
    | err c fs D2 => trivial
    | ok r D2 =>
      intro Q hq
      obtain ⟨p1, p2, p3⟩ := call0_pre F1
      refine ⟨rfl, rfl, S, none, [y, x], D1, [v, u], rfl, rfl, rfl, p1, F1.tb, trivial, .cons (hv.sub p2) (.cons (hu.sub p2) .nil), ?_⟩
      rw [hF]
      intro v H' e rv
      obtain ⟨k, F2⟩ := p3 H' D2 e
      exact hq v H' ⟨k, k.mono fun b m => F1.base b (.inl m)⟩ F2 (back_ok (C' := Ct.mk C.G none S H1) F1 rfl (fun a m => tabs_ch a ((List.mem_append.mp m).elim id fun z => absurd z List.not_mem_nil)) rfl k F2 rv)
  · trivial
/-! ### _law_caught(lambda: ..) -/
/-- what nobody else may change -/
def dropO (ρ : Env) : Env := ρ.map fun o => match o with
  | some t => if own t = true then none else some t
  | none => none
theorem dropO_get {ρ : Env} {i : Nat} {t : T} (h : (dropO ρ)[i]? = some (some t)) : ρ[i]? = some (some t) ∧ own t = false := by
  unfold dropO at h
  rw [List.getElem?_map] at h
  cases q : ρ[i]? with
  | none => rw [q] at h; cases h
  | some o =>
    rw [q] at h
    cases o with
    | none => cases h
    | some u =>
      have h : (if own u = true then none else some u) = some t := Option.some.inj h
      split at h
      · cases h
      · rename_i n; cases h; exact ⟨rfl, by simpa using n⟩
theorem Fm.inner (F : Fm C S ρ D σ H) : Fm (Ct.mk C.G C.dr S H) S (dropO ρ) D σ H where
  len := by rw [F.len]; unfold dropO; rw [List.length_map]
  slot := fun i t e => by
    obtain ⟨e1, o⟩ := dropO_get e
    obtain ⟨v, s, h⟩ := F.slot i t e1
    refine ⟨v, s, ?_⟩
    cases t with
    | l => cases o
    | m => cases o
    | mt => cases o
    | _ => exact h
  uniq := fun i j t u v _ e1 _ o1 _ _ _ => by rw [(dropO_get e1).2] at o1; cases o1
  base := fun a m => m.elim (fun z => F.base a (.inl z)) id
  dom := F.dom
  kp := .refl
  tb := F.tb
  dr := F.dr
  drc := fun d w c e => by
    have h := F.dr
    rw [e] at h
    have h : DrE H d w c D := h
    show H c ≠ none
    rw [h.ce]
    exact (fun z => by cases z)
namespace Ev
def caught (en : List Str) (f : EX) : EX := fun ρ D => match f (dropO ρ) D with
  | .ok _ D' => .ok .none D'
  | .err c fs D' => if c ∈ en then .ok (errD c fs) D' else .stuck
  | .stuck => .stuck
end Ev
/-- _law_caught(work): no value, or the error that it raises -/
def TCaughtN (K : PySem.W.Frag) (CL : Addr) : (XK → Hp → VK → Prop) → Hp → VK → Prop := fun tl H Q =>
  tl (fun cls d H' => PySem.W.exmOne K cls (.ref CL) = some true ∧ ∀ a, H' a = none → Q (.ref a) (upd H' a (ExV cls d a))) H (fun _ H' => Q .non H')
structure LIx {ι : Type} (X : ι → Cx) (scope : Scope) (k : Nat) where
  i : ι
  A : Around
  outer : List PySem.Env
  s : Shared
  H : Hp
  f : Addr
  c' : Addr
  hr : Room k (A.deeper (lamEnv (X i) scope s.heap.objs.size f c'))
abbrev famL (X : ι → Cx) (scope : Scope) (k : Nat) (E : XK) : LIx X scope k → Cx := fun j => lamCx (X j.i) j.A j.outer j.s j.H E scope j.f j.c'
theorem ve_caught {en : List Str} {sub : Str → Str → Bool} {P : Addr} {q : Str} {scope : Scope} {k : Nat} {body : Expr} (Ec : ErrC C.G.K en sub) (hPQ : (P, q) ∈ C.G.Tq) (hu : ∀ p ∈ C.G.Tq, p.1 = P → p.2 = q) (hn : P ∉ C.G.Ts)
    (hb : ∀ (U : List Addr) (H0 : Hp) (E' : XK), VE (famL X scope k E') (Ct.mk C.G C.dr U H0) E' body fa)
    (hp : ∀ i (t : XK → TE), (∀ (A : Around) (outer : List PySem.Env) (s : Shared) (H : Hp) (E' : XK) (f c' : Addr), Room k (A.deeper (lamEnv (X i) scope s.heap.objs.size f c')) → PE (lamCx (X i) A outer s H E' scope f c') body (t E')) → PE (X i) e (tLam1 P q (TCaughtN C.G.K (Nm.adr "LinkError")) t)) :
    VE X C E e (Ev.caught en fa) := by
  have hx := fun E' => fun U H0 => (hb U H0 E').ex
  -- one reading for all U, H0
  let t : XK → TE := fun E' σ H Q => ∃ (U : List Addr) (H0 : Hp), Classical.choose (hx E' U H0) σ H Q
  refine ⟨tLam1 P q (TCaughtN C.G.K (Nm.adr "LinkError")) t, fun i => hp i t fun A outer s H E' f c' hr => ?_, fun S ρ D σ H F => ?_⟩
  · refine ⟨fun pins s' σ' H' Q I h => ?_⟩
    obtain ⟨U, H0, h⟩ := h
    have p := (Classical.choose_spec (hx E' U H0)).1 (⟨i, A, outer, s, H, f, c', hr⟩ : LIx X scope k)
    exact p.run pins s' σ' H' Q I h
  · have key : ∀ (r : R PyData), r = fa (dropO ρ) D → PostE C E S ρ σ H (fun v H' d => Dt S H' v d) (match r with | .ok _ D' => .ok .none D' | .err c fs D' => if c ∈ en then .ok (errD c fs) D' else .stuck | .stuck => .stuck) (fun Q => tLam1 P q (TCaughtN C.G.K (Nm.adr "LinkError")) t σ H Q) := by
      intro r er
      have tP := F.tb.q (P, q) hPQ
      obtain ⟨ps0, hP0, _⟩ := id tP
      have mT : P ∈ C.G.tabs := List.mem_append_right _ (List.mem_map.mpr ⟨_, hPQ, rfl⟩)
      -- behind the making
      have made : ∀ H1, ExtP P H H1 → TabS H1 P q → Fm C S ρ D σ H1 ∧ Kq C S H H1 := fun H1 ex t2 => by
        have kP : Kp [P] H H1 := kp_ext hP0 ex
        have kT : Kp C.G.tabs H H1 := kP.mono fun b m => (List.mem_singleton.mp m) ▸ mT
        have kC : Kp C.ch H H1 := kT.mono tabs_ch
        exact ⟨F.after kC (tb_ext F.tb hu hn ex t2 ⟨_, hP0⟩) (F.drT kT), kC, kC.mono fun b m => F.base b (.inl m)⟩
      have B := fun (E' : XK) (H1 : Hp) (F1 : Fm C S ρ D σ H1) => (Classical.choose_spec (hx E' S H1)).2 S (dropO ρ) D σ H1 F1.inner
      cases r with
      | stuck => trivial
      | ok v D' =>
        refine fun Q hq => ⟨tP, fun H1 ex t2 => ?_⟩
        obtain ⟨F1, k1⟩ := made H1 ex t2
        have B1 := B (fun cls d H' => PySem.W.exmOne C.G.K cls (.ref (Nm.adr "LinkError")) = some true ∧ ∀ a, H' a = none → Q (.ref a) (upd H' a (ExV cls d a))) H1 F1
        rw [← er] at B1
        refine ⟨S, H1, B1 _ fun v H' k F' h => ?_⟩
        have k : Kq C S H1 H' := ⟨k.c, k.s⟩
        exact hq .non H' (k1.trans k) (F1.after k.c F'.tb F'.dr) .non
      | err c fs D' =>
        show PostE C E S ρ σ H _ (if c ∈ en then .ok (errD c fs) D' else .stuck) _
        split
        · rename_i hc
          refine fun Q hq => ⟨tP, fun H1 ex t2 => ?_⟩
          obtain ⟨F1, k1⟩ := made H1 ex t2
          have B1 := B (fun cls d H' => PySem.W.exmOne C.G.K cls (.ref (Nm.adr "LinkError")) = some true ∧ ∀ a, H' a = none → Q (.ref a) (upd H' a (ExV cls d a))) H1 F1
          rw [← er] at B1
          refine ⟨S, H1, B1 ?_ _⟩
          rintro H' cls dd ⟨kp, tb, dr, rfl, hf⟩
          refine ⟨Ec.link c hc, fun a na => ?_⟩
          have kC : Kp C.ch H1 H' := kp
          have F2 : Fm C S ρ D' σ H' := F1.after kC tb dr
          have kS : Kp S H1 H' := kC.mono fun b m => F1.base b (.inl m)
          have kn : Kp [] H' (upd H' a (ExV (.ref (Nm.adr c)) dd a)) := Kp.new na
          refine hq _ _ ((k1.trans ⟨kC, kS⟩).trans (.of kn)) (F2.grow kn) ?_
          rcases hf with ⟨rfl, rfl⟩ | ⟨d, kv, rfl, n0, ed, hx⟩
          · exact .exc upd_same
          · have nd : d ∉ S := fun m => F1.dom d m n0
            exact .exd upd_same nd (kn _ _ ed (.inr List.not_mem_nil)) ((hx.sub fun b m => List.mem_append_right _ m).kp kn.of)
        · trivial
    have := key _ rfl
    unfold Ev.caught
    exact this
end
end Fx
set_option Elab.async false
set_option linter.all false
set_option maxRecDepth 100000
set_option maxHeartbeats 2000000
namespace Fx
open PySem PySem.Spec PyProof.Rows L2 Kb LamX NdefX
variable [Nm]
/-! ### the law's own frame -/
theorem gtab_grown {b b' : Heap} {mg : Str → Option Value} {c P : Addr} (t : GxR.TabB b mg c P) (x : BX b b') : GxR.TabB b' mg c P := ⟨t.code.keeps x, t.bm.keeps x, t.gP⟩
theorem ltab_grown {b b' : Heap} {mg : Str → Option Value} {c P : Addr} (t : LamX.TabB b mg c P) (x : BX b b') : LamX.TabB b' mg c P := ⟨t.code.keeps x, t.bm.keeps x, t.gP⟩
/-- _law_begun -/
def spBegun (K : PySem.W.Frag) : Sp := fun vs H Q _ => ∃ (a : Addr) (ns : List Int), vs = [.ref a] ∧ SqL K H a (ns.map V.int) ∧ ns.length ≤ 63 ∧ ∀ H' d w c D, D.turn = 0 → D.wide.length ≤ 63 → D.cells.length ≤ 63 → Kp [] H H' → DrE H' d w c D → H d = none → H w = none → H c = none → Q (.ref d) H'
def envLaw (m : Nat) (ns : List Int) : Env := [some (.sc ns), some .w] ++ List.replicate (m - 2) none
def spLaw (G : Gt) (m : Nat) (f : ST) : Sp := fun vs H Q _ => ∃ (a : Addr) (ns : List Int), vs = [.ref a] ∧ SqL G.K H a (ns.map V.int) ∧ ns.length ≤ 63 ∧ TbOk G H ∧
  (∀ D : Dw, D.turn = 0 → D.wide.length ≤ 63 → D.cells.length ≤ 63 → ∃ ρ' D', f (envLaw m ns) D = .ok (.ret (.bool true), ρ') D') ∧ ∀ H', Q (.bl true) H'
namespace Ev
def lenS (i : Nat) : EX := fun ρ D => match ρ[i]? with
  | some (some (.sc ns)) => .ok (.int ns.length) D
  | _ => .stuck
end Ev
section
variable {ι : Type} {X : ι → Cx} {C : Ct} {E : XK} {S : List Addr} {ρ : Env} {D : Dw} {σ : St} {H : Hp}
variable {a b c e : Expr} {es : List Expr} {pos p : Pos} {fa fb fc : EX} {aa : EA} {x : Str}
theorem ve_lenS {i : Nat} (hp : ∀ i_, PE (X i_) e (tCB (rLenU C.G.K) (tCons (tVar i) tNil))) : VE X C E e (Ev.lenS i) := by
  refine ⟨_, fun i => hp i, fun S ρ D σ H F => ?_⟩
  show PostE C E S ρ σ H _ _ (fun Q => ∃ v, σ[i]? = some (some v) ∧ rLenU C.G.K [v] H Q)
  unfold Ev.lenS
  split
  · rename_i ns hi
    obtain ⟨v, s, a, rfl, h⟩ := F.slot i _ hi
    refine fun Q hq => ⟨_, s, .inl ⟨_, ns.length, rfl, .inl ⟨ns.map V.int, ?_, (List.length_map _).symm⟩, hq _ _ .refl F (.int _)⟩⟩
    rcases h with ⟨o, e⟩ | e | ⟨n, e⟩
    · exact .inl (.inr ⟨o, e⟩)
    · exact e H
    · exact sqL e
  · trivial
end
section
variable {P : Program} {w : World} {K : PySem.W.Frag} {mg : Str → Option Value} {base : Heap}
theorem okLaw {st s0 : Stmt} {rest : List Stmt} {fa c : Addr} {fd : FuncData} {N : List Str} {k : Nat} {G : Gt} {f : ST} (F : Fun K "law" "law" st fa fd) (hc : fd.code = .ref c) (S : FnScope N ["script"] (defScope st)) (hN : 2 ≤ N.length) (hG : G.K = K) (hbd : defBody st = s0 :: rest)
    (h0 : ∀ (A : Around) (outer : List PySem.Env) (s : Shared) (H : Hp) (E : XK), Room k (A.deeper (envOfC "law" (defScope st) s.heap.objs.size fa (.ref c))) → PS (cxOf CX0 P w K mg base N "law" (defScope st) fa (.ref c) A outer s H E).nox s0 (tAsg (tCall (spBegun K) [] E0 (tCons (tVar 0) tNil)) (gName 1)))
    (hrest : ∀ (A : Around) (outer : List PySem.Env) (s : Shared) (H : Hp) (E : XK) (H1 : Hp) (d w' c' : Addr), A.guards = some [] → Room k (A.deeper (envOfC "law" (defScope st) s.heap.objs.size fa (.ref c))) →
      VSs (fun _ : Unit => (cxOf CX0 P w K mg base N "law" (defScope st) fa (.ref c) A outer s H E).nox) (Ct.mk G (some (d, w', c')) [] H1) E0 false rest f) :
    KbRp.RunG P w K mg base (k + 1) fa fd ["script"] (spLaw G N.length f) := by
  refine KbRp.okG F hc S (fun vs H Q E h => by obtain ⟨a, ns, rfl, _⟩ := h; rfl) (fun A outer s H vs Q E hgd hr h => ?_)
  obtain ⟨a, ns, rfl, hS, hlen, hT, hf, q⟩ := h
  -- what follows, for every draw
  have hx := fun H1 d w' c' => (hrest A outer s H E H1 d w' c' hgd hr).ex
  let t : TS := fun Dn σ H' => ∃ H1 d w' c', Classical.choose (hx H1 d w' c') Dn σ H'
  have pt : PSs (cxOf CX0 P w K mg base N "law" (defScope st) fa (.ref c) A outer s H E).nox rest t := ⟨fun pins s' σ H' D I ⟨H1, d, w', c', h⟩ => ((Classical.choose_spec (hx H1 d w' c')).1 ()).run pins s' σ H' D I h⟩
  rw [hbd]
  refine ⟨_, pss_cons (h0 A outer s H E hr) pt, ?_⟩
  have hs : L2.start N [V.ref a] = some (V.ref a) :: List.replicate (N.length - 1) none := rfl
  rw [hs]
  refine ⟨.ref a, rfl, a, ns, rfl, by rw [hG] at hS; exact hS, hlen, fun H1 d w' c' D hz lw lc kp hD nd nw nc => ?_⟩
  obtain ⟨ρ', D', hr'⟩ := hf D hz lw lc
  refine ⟨H1, d, w', c', ?_⟩
  have hTd : TbOk G H1 := hT.kp0 kp
  have hst : (some (V.ref a) :: List.replicate (N.length - 1) none).set 1 (some (V.ref d)) = [some (V.ref a), some (V.ref d)] ++ List.replicate (N.length - 2) none := by
    obtain ⟨m, hm⟩ : ∃ m, N.length - 1 = m + 1 := ⟨N.length - 2, by omega⟩
    have : N.length - 2 = m := by omega
    rw [hm, this]
    rfl
  have offT : ∀ {b : Addr} {o : HO}, H b = some o → (∀ ps, o ≠ .tbl ps) → b ∉ G.tabs := fun e n m => by
    obtain ⟨ps, e'⟩ := hT.tbl m
    rw [e] at e'; cases e'; exact n ps rfl
  have F1 : Fm (Ct.mk G (some (d, w', c')) [] H1) (G.tabs ++ [d, w']) (envLaw N.length ns) D ([some (V.ref a), some (V.ref d)] ++ List.replicate (N.length - 2) none) H1 := by
    have slot : ∀ (i : Nat) (t : T), (envLaw N.length ns)[i]? = some (some t) → own t = false ∧ ∃ v, ([some (V.ref a), some (V.ref d)] ++ List.replicate (N.length - 2) none)[i]? = some (some v) ∧ Rt (Ct.mk G (some (d, w', c')) [] H1) (G.tabs ++ [d, w']) H1 v t := fun i t e => by
      unfold envLaw at e
      match i with
      | 0 =>
        cases e
        refine ⟨rfl, .ref a, rfl, a, rfl, ?_⟩
        rcases hS with (e | ⟨o, e⟩) | e
        · refine .inr (.inr ⟨fun m => ?_, kp _ _ e (.inr List.not_mem_nil)⟩)
          rcases List.mem_append.mp m with m | m
          · exact offT e (fun ps z => by cases z) m
          · simp only [List.mem_cons, List.not_mem_nil, or_false] at m
            rcases m with rfl | rfl
            · exact noNone e nd
            · exact noNone e nw
        · exact .inl ⟨o, kp _ _ e (.inl rfl)⟩
        · exact .inr (.inl fun H' => .inr e)
      | 1 =>
        cases e
        exact ⟨rfl, .ref d, rfl, d, w', c', rfl, rfl⟩
      | i + 2 =>
        have e : (List.replicate (N.length - 2) (none : Option T))[i]? = some (some t) := e
        have := List.eq_of_mem_replicate (List.mem_of_getElem? e)
        cases this
    exact {
      len := by unfold envLaw; simp
      slot := fun i t e => (slot i t e).2
      uniq := fun i j t u v _ e _ o _ _ _ => by rw [(slot i t e).1] at o; cases o
      base := fun a m => m.elim id fun z => absurd z List.not_mem_nil
      dom := fun b m => by
        rcases List.mem_append.mp m with m | m
        · obtain ⟨ps, e⟩ := hTd.tbl m
          exact isSome e
        · simp only [List.mem_cons, List.not_mem_nil, or_false] at m
          rcases m with rfl | rfl
          · exact isSome hD.dr
          · exact isSome hD.wi
      kp := .refl
      tb := hTd
      dr := hD
      drc := fun d2 w2 c2 e => by cases e; exact isSome hD.ce }
  have B := (Classical.choose_spec (hx H1 d w' c')).2 _ _ D _ H1 { nx := fun _ H' => Q .non H', rt := Q } F1
  rw [hr'] at B
  have B := B fun v H' _ rv => by
    have rv : Dt _ _ v (.bool true) := rv
    rw [rv.bl_inv]
    exact q H'
  show Classical.choose (hx H1 d w' c') _ ((some (V.ref a) :: List.replicate (N.length - 1) none).set 1 (some (V.ref d))) H1
  rw [hst]
  exact B
end
/-! ### for the begun -/
theorem sqL_kp0 {K : PySem.W.Frag} {H H' : Hp} {a : Addr} {xs : List V} (k : Kp [] H H') (h : SqL K H a xs) : SqL K H' a xs := by
  rcases h with (e | ⟨o, e⟩) | e
  · exact .inl (.inl (k _ _ e (.inr List.not_mem_nil)))
  · exact .inl (.inr ⟨o, k _ _ e (.inl rfl)⟩)
  · exact .inr e
theorem kp_put {S : List Addr} {H0 H : Hp} {p : Addr} {o : HO} (a : Kp S H0 H) (n : H0 p = none) : Kp S H0 (upd H p o) := fun b x e h => by rw [upd_ne (ne_of_none e n)]; exact a b x e h
theorem kp_none {H H' : Hp} (a : Kp [] H H') {b : Addr} (e : H' b = none) : H b = none := by
  cases h : H b with
  | none => rfl
  | some o => rw [a b o h (.inr List.not_mem_nil)] at e; cases e
theorem lc_by0 {J : It} {n : Nat} {g : TG} {tt : TT} {te : TE} {vs : List Nat} {σ : L2.St} {H0 : Hp} {D : Addr} {Q : Hp → Prop} (Pv : Nat → Hp → Prop) (h0 : Pv 0 H0)
    (hs : ∀ i H, i < n → Pv i H → J.go i H ∧ ∀ x H', J.yld i H x H' → g x (wipe σ vs) H' fun σ2 H2 => wipe σ2 vs = wipe σ vs ∧ tt σ2 H2 fun b H3 =>
      if b = true then te σ2 H3 fun y H4 => ∃ acc, H4 D = some (.lst acc) ∧ acc.length < sizeLine ∧ Pv (i + 1) (upd H4 D (.lst (acc ++ [y]))) else Pv (i + 1) H3)
    (hd : ∀ H, Pv n H → J.stop n H ∧ Q H) :
    ∃ W : Nat → Nat → Hp → Prop, (∃ m, W 0 m H0) ∧ ∀ i m H, W i m H →
      (J.stop i H ∧ Q H) ∨ (J.go i H ∧ ∃ Nx : Hp → Prop, (∀ H', Nx H' → ∃ m', m' < m ∧ W (i + 1) m' H') ∧ ∀ x H', J.yld i H x H' → g x (wipe σ vs) H' fun σ2 H2 => wipe σ2 vs = wipe σ vs ∧ tt σ2 H2 fun b H3 =>
        if b = true then te σ2 H3 fun y H4 => ∃ acc, H4 D = some (.lst acc) ∧ acc.length < sizeLine ∧ Nx (upd H4 D (.lst (acc ++ [y]))) else Nx H3) := by
  refine ⟨fun i m H => m = n - i ∧ i ≤ n ∧ Pv i H, ⟨n, by simp, Nat.zero_le _, h0⟩, ?_⟩
  rintro i m H ⟨rfl, hi, p⟩
  by_cases hlt : i < n
  · obtain ⟨h1, h2⟩ := hs i H hlt p
    exact .inr ⟨h1, Pv (i + 1), fun H' p' => ⟨n - (i + 1), by omega, rfl, hlt, p'⟩, h2⟩
  · have e : i = n := by omega
    subst e
    exact .inl (hd H p)
theorem room66 {k : Nat} {A : Around} (hr : Room k A) : A.units + 66 < cLine := by have := hr.un; omega
theorem room65 {k : Nat} {A : Around} (hr : Room k A) : A.units + 65 < cLine := by have := hr.un; omega
theorem room64 {k : Nat} {A : Around} (hr : Room k A) : A.units + 64 < cLine := by have := hr.un; omega
theorem room1 {k : Nat} {A : Around} (hr : Room k A) : A.units + 1 < cLine := by have := hr.un; omega
theorem room0 {k : Nat} {A : Around} (hr : Room k A) : A.units < cLine := by have := hr.un; omega
end Fx
set_option Elab.async false
set_option linter.all false
set_option maxRecDepth 100000
set_option maxHeartbeats 2000000
namespace Fx
open PySem PySem.Spec PyProof.Rows L2 Kb LamX NdefX
variable [Nm]
/-! ### a list of new lists -/
/-- lists at rs, with ys in them -/
inductive RowsL (S : List Addr) (H : Hp) : List Addr → List PyData → Prop
  | nil : RowsL S H [] []
  | cons {r : Addr} {rs : List Addr} {vs : List V} {xs ys : List PyData} : H r = some (.lst vs) → DtL S H vs xs → RowsL S H rs ys → RowsL S H (r :: rs) (.list xs :: ys)
section
variable {S S' : List Addr} {H H' : Hp} {rs : List Addr} {ys : List PyData}
theorem RowsL.mk (h : RowsL S H rs ys) (hr : ∀ r ∈ rs, ∀ o, H r = some o → H' r = some o) (k : Kp S H H') : RowsL S H' rs ys := by
  induction h with
  | nil => exact .nil
  | cons e d h ih => exact .cons (hr _ List.mem_cons_self _ e) (d.kp k) (ih fun r m => hr r (List.mem_cons_of_mem _ m))
theorem RowsL.sub (h : RowsL S H rs ys) (hs : ∀ b ∈ S', b ∈ S) : RowsL S' H rs ys := by
  induction h with
  | nil => exact .nil
  | cons e d h ih => exact .cons e (d.sub hs) ih
theorem RowsL.snoc {r : Addr} {vs : List V} {xs : List PyData} (h : RowsL S H rs ys) (e : H r = some (.lst vs)) (d : DtL S H vs xs) : RowsL S H (rs ++ [r]) (ys ++ [.list xs]) := by
  induction h with
  | nil => exact .cons e d .nil
  | cons e1 d1 h ih => exact .cons e1 d1 ih
theorem RowsL.there (h : RowsL S H rs ys) : ∀ r ∈ rs, ∃ o, H r = some o := by
  induction h with
  | nil => exact fun _ m => absurd m List.not_mem_nil
  | cons e d h ih => exact fun r m => (List.mem_cons.mp m).elim (fun z => z ▸ ⟨_, e⟩) (ih r)
theorem RowsL.len (h : RowsL S H rs ys) : rs.length = ys.length := by
  induction h with
  | nil => rfl
  | cons e d h ih => rw [List.length_cons, List.length_cons, ih]
/-- as data -/
theorem RowsL.dtL (h : RowsL S H rs ys) (n : ∀ r ∈ rs, r ∉ S) : DtL S H (rs.map V.ref) ys := by
  induction h with
  | nil => exact .nil
  | cons e d h ih => exact .cons (.lst e (n _ List.mem_cons_self) d) (ih fun r m => n r (List.mem_cons_of_mem _ m))
end
abbrev RdF (C : Ct) (E : XK) (t : TE) (f : EX) : Prop := ∀ S ρ D σ H, Fm C S ρ D σ H → PostF C E S ρ σ H (f ρ D) (fun Q => t σ H Q)
section
variable {ι : Type} {X : ι → Cx} {C : Ct} {E : XK} {fr : Bool} {S : List Addr} {ρ : Env} {D : Dw} {σ : St} {H : Hp} {Dn : Ends}
variable {a b c e : Expr} {st : Stmt} {rest sts sts' : List Stmt} {es : List Expr} {pos : Pos} {fa fb fc : EX} {ga gb : EB} {aa : EA} {f g : ST}
/-- the same, where each turn gives a new list -/
theorem lc_rows {J : It} {t : TG} {tt : TT} {te : TE} {gg : EG} {vs ks : List Nat} {ds ys : List PyData} {D2 : Dw} {Q : VK} {p : Addr} (hks : ∀ k ∈ ks, k ∈ vs)
    (qt : ∀ S ρ D σ H v d ρ', Fm C S ρ D σ H → Dt S H v d → gg d ρ = some ρ' → ∀ Q : St → Hp → Prop, (∀ σ', Fm C S ρ' D σ' H → Off ks ρ ρ' σ σ' → Q σ' H) → t v σ H Q)
    (qi : RdT C E0 tt ga) (qe : RdF C E0 te fa) (hfa : ∀ ρ D y D', fa ρ D = .ok y D' → ∃ xs, y = .list xs) (F : Fm C S ρ D σ H) (hJ : ItOk S H ds J) (hl : ds.length < 10000000) (hno : Ev.noOwn ρ vs = true) (hr : Ev.lcLoop (wipeE ρ vs) gg ga fa ds D = .ok ys D2) (n : H p = none)
    (q : ∀ rs H', Fm C S ρ D2 σ H' → Kq C S H H' → H' p = some (.lst (rs.map V.ref)) → RowsL S H' rs ys → (p :: rs).Nodup → (∀ b ∈ rs, H b = none) → Q (.ref p) H') :
    ∃ W : Nat → Nat → Hp → Prop, (∃ m, W 0 m (upd H p (.lst []))) ∧ ∀ i m H, W i m H →
      (J.stop i H ∧ Q (.ref p) H) ∨ (J.go i H ∧ ∃ Nx : Hp → Prop, (∀ H', Nx H' → ∃ m', m' < m ∧ W (i + 1) m' H') ∧ ∀ x H', J.yld i H x H' → t x (L2.wipe σ vs) H' fun σ2 H2 => L2.wipe σ2 vs = L2.wipe σ vs ∧ tt σ2 H2 fun b H3 =>
        if b = true then te σ2 H3 fun y H4 => ∃ acc, H4 p = some (.lst acc) ∧ acc.length < sizeLine ∧ Nx (upd H4 p (.lst (acc ++ [y]))) else Nx H3) := by
  have F0 : Fm C (p :: S) ρ D σ (upd H p (.lst [])) := F.newS n
  have np : p ∉ S := fun m => F.dom p m n
  have nch : p ∉ C.ch := fun m => np (F.base p (.inl m))
  have nU : p ∉ C.U := fun m => np (F.base p (.inr m))
  have x0 : Ext S H (p :: S) (upd H p (.lst [])) := ⟨Kp.new n, fun b m => (List.mem_cons.mp m).elim (fun z => .inr (z ▸ n)) .inl⟩
  -- a list that only we hold may be written
  have wr : ∀ {ρ' : Env} {D' : Dw} {σ' : St} {H1 : Hp} {acc us : List V}, Fm C (p :: S) ρ' D' σ' H1 → H1 p = some (.lst acc) → (∀ (j : Nat) (u : T), ρ'[j]? = some (some u) → own u = true → σ'[j]? ≠ some (some (V.ref p))) → Fm C (p :: S) ρ' D' σ' (upd H1 p (.lst us)) ∧ Kp (p :: S) H1 (upd H1 p (.lst us)) := by
    intro ρ' D' σ' H1 acc us F1 hp1 hno
    have kS : Kp (p :: S) H1 (upd H1 p (.lst us)) := Kp.refl.set List.mem_cons_self fun u hu => by rw [hp1] at hu; cases hu; rfl
    have stay : ∀ {b : Addr} {u : HO}, b ≠ p → H1 b = some u → upd H1 p (.lst us) b = some u := fun n q => by rw [upd_ne n]; exact q
    refine ⟨⟨F1.len, fun j u ej => ?_, F1.uniq, F1.base, fun b m => ?_, ?_, ⟨fun P m => ?_, fun q m => ?_⟩, ?_, F1.drc⟩, kS⟩
    · obtain ⟨v, s1, h1⟩ := F1.slot j u ej
      refine ⟨v, s1, h1.mk kS (fun _ m => .inl m) fun ou a ea m => ⟨m, fun ob eb => stay (fun z => ?_) eb⟩⟩
      subst z
      rw [ea] at s1
      exact hno j u ej ou s1
    · by_cases hb : b = p
      · subst hb; rw [upd_same]; exact (fun z => by cases z)
      · rw [upd_ne hb]; exact F1.dom b m
    · exact fun x ob ex hx => by
        have := F1.kp x ob ex hx
        exact stay (fun z => by rw [z, F.ch0 n] at ex; cases ex) this
    · obtain ⟨ps, ep, tr⟩ := F1.tb.g P m
      exact ⟨ps, stay (fun z => nch (z ▸ List.mem_append_left _ (List.mem_append_left _ m))) ep, tr⟩
    · obtain ⟨ps, ep, tr, q2⟩ := F1.tb.q q m
      refine ⟨ps, stay (fun z => nch (z ▸ List.mem_append_left _ (List.mem_append_right _ (List.mem_map.mpr ⟨q, m, rfl⟩)))) ep, tr, fun pos cv z => ?_⟩
      obtain ⟨cc, rfl, y⟩ := q2 pos cv z
      refine ⟨cc, rfl, stay (fun z => ?_) y⟩
      subst z
      rw [y] at hp1
      cases hp1
    · have hd := F1.dr
      unfold DrO at *
      split at hd
      · rename_i d w c ec
        have m1 : d ∈ C.ch := List.mem_append_right _ (by unfold Ct.dch; rw [ec]; simp)
        have m2 : w ∈ C.ch := List.mem_append_right _ (by unfold Ct.dch; rw [ec]; simp)
        exact ⟨stay (fun z => nch (z ▸ m1)) hd.dr, stay (fun z => nch (z ▸ m2)) hd.wi, stay (fun z => F1.drc d w c ec (z ▸ F.ch0 n)) hd.ce, hd.lw, hd.lc, hd.wc⟩
      · trivial
  refine ⟨fun i m H1 => ∃ D1 rs xs, Fm C (p :: S) ρ D1 σ H1 ∧ Kp C.ch H H1 ∧ Ext S H (p :: S) H1 ∧ H1 p = some (.lst (rs.map V.ref)) ∧ RowsL (p :: S) H1 rs xs ∧ ((p :: rs).Nodup ∧ ∀ b ∈ rs, H b = none) ∧ i ≤ ds.length ∧ xs.length ≤ i ∧ m = ds.length - i ∧ ∃ zs, Ev.lcLoop (wipeE ρ vs) gg ga fa (ds.drop i) D1 = .ok zs D2 ∧ ys = xs ++ zs,
    ⟨_, D, [], [], F0, Kp.new n, x0, upd_same, .nil, ⟨List.nodup_cons.mpr ⟨List.not_mem_nil, List.nodup_nil⟩, fun _ m => absurd m List.not_mem_nil⟩, Nat.zero_le _, Nat.le_refl _, rfl, ys, hr, rfl⟩, ?_⟩
  rintro i m H1 ⟨D1, rs, xs, F1, c1, x1, hp1, hacc, hnd, hi, hxs, rfl, zs, hz, rfl⟩
  obtain ⟨hgo, hstop⟩ := hJ i (p :: S) H1 x1 F1.dom
  by_cases hlt : i < ds.length
  · have hd : ds[i]? = some ds[i] := List.getElem?_eq_getElem hlt
    have hdrop : ds.drop i = ds[i] :: ds.drop (i + 1) := List.drop_eq_getElem_cons hlt
    generalize ds[i] = d at hd hdrop
    obtain ⟨hg1, hy⟩ := hgo d hd
    rw [hdrop] at hz
    unfold Ev.lcLoop at hz
    refine .inr ⟨hg1, fun H2 => ∃ D3 rs xs', Fm C (p :: S) ρ D3 σ H2 ∧ Kp C.ch H H2 ∧ Ext S H (p :: S) H2 ∧ H2 p = some (.lst (rs.map V.ref)) ∧ RowsL (p :: S) H2 rs xs' ∧ ((p :: rs).Nodup ∧ ∀ b ∈ rs, H b = none) ∧ xs'.length ≤ i + 1 ∧ ∃ zs', Ev.lcLoop (wipeE ρ vs) gg ga fa (ds.drop (i + 1)) D3 = .ok zs' D2 ∧ xs ++ zs = xs' ++ zs', ?_, fun x H2 hx => ?_⟩
    · rintro H2 ⟨D3, acc2, xs2, F2, c2, x2, hp2, h2, nd2, hl2, zs2, hz2, e2⟩
      exact ⟨_, by omega, D3, acc2, xs2, F2, c2, x2, hp2, h2, nd2, hlt, hl2, rfl, zs2, hz2, e2⟩
    · obtain ⟨k2, hx2⟩ := hy x H2 hx
      have F2 := F1.grow k2
      have x2 : Ext S H (p :: S) H2 := x1.trans (Ext.of k2.of)
      have hp2 : H2 p = some (.lst (rs.map V.ref)) := k2 p _ hp1 (.inr List.not_mem_nil)
      have nchr : ∀ b ∈ rs, b ∉ C.ch := fun b m z => F.dom b (F.base b (.inl z)) (hnd.2 b m)
      have hacc2 : RowsL (p :: S) H2 rs xs := hacc.mk (fun r _ o e => k2 r o e (.inr List.not_mem_nil)) k2.of
      cases hgg : gg d (wipeE ρ vs) with
      | none => rw [hgg] at hz; cases hz
      | some ρ1 =>
        rw [hgg] at hz
        refine qt (p :: S) (wipeE ρ vs) D1 (L2.wipe σ vs) H2 x d ρ1 (F2.wipe vs) hx2 hgg _ fun σ2 F3 ho => ⟨wipe_eq (by rw [ho.len, wipe_length]) ho.at_ hks, ?_⟩
        have noown : ∀ (j : Nat) (u : Fx.T), ρ1[j]? = some (some u) → own u = true → σ2[j]? ≠ some (some (V.ref p)) := fun j u e o s => by
          obtain ⟨e1, n1⟩ := ho.own j u e o
          obtain ⟨e2, n2⟩ := wipeE_some e1
          rw [ho.at_ j n1, wipe_off n2] at s
          obtain ⟨a, ea, ma⟩ := F.ownS e2 o s
          cases ea
          exact np ma
        have T := qi (p :: S) ρ1 D1 σ2 H2 F3
        cases hb : ga ρ1 D1 with
        | stuck => simp only [hb] at hz; cases hz
        | err c fs D3 => simp only [hb] at hz; cases hz
        | ok bb D3 =>
          simp only [hb] at hz
          rw [hb] at T
          refine T _ fun H3 k3 F4 => ?_
          have x3 := x2.trans (Ext.of k3.s)
          have back : ∀ {D' : Dw} {H' : Hp}, Fm C (p :: S) ρ1 D' σ2 H' → Ext (p :: S) H2 (p :: S) H' → Fm C (p :: S) ρ D' σ H' := fun {D' H'} F' x' => by
            refine ⟨F.len, fun j t e => ?_, F.uniq, F'.base, F'.dom, F'.kp, F'.tb, F'.dr, F'.drc⟩
            obtain ⟨v, s1, h1⟩ := F2.slot j t e
            by_cases ot : own t = true
            · have nj : j ∉ vs := fun m => by
                have := List.all_eq_true.mp hno j m
                rw [e] at this
                simp only [ot, Bool.not_true] at this
                cases this
              have nk : j ∉ ks := fun m => nj (hks j m)
              have e1 : ρ1[j]? = some (some t) := by
                rw [ho.keep j nk]
                exact (wipeE_off nj).trans e
              obtain ⟨v2, s2, h2⟩ := F'.slot j t e1
              rw [ho.at_ j nk, wipe_off nj] at s2
              exact ⟨v2, s2, h2⟩
            · exact ⟨v, s1, h1.mk x'.kp (fun _ m => .inl m) fun z => absurd z ot⟩
          cases bb with
          | false =>
            simp only [Bool.false_eq_true, if_false]
            exact ⟨D3, rs, xs, back F4 (Ext.of k3.s), (c1.trans k2.of).trans k3.c, x3, k3.c p _ hp2 (.inr nch), hacc2.mk (fun r m o e => k3.c r o e (.inr (nchr r m))) k3.s, hnd, by omega, zs, hz, rfl⟩
          | true =>
            simp only [if_true]
            have T2 := qe (p :: S) ρ1 D3 σ2 H3 F4
            cases hf : fa ρ1 D3 with
            | stuck => simp only [hf] at hz; cases hz
            | err c fs D4 => simp only [hf] at hz; cases hz
            | ok y D4 =>
              simp only [hf] at hz
              rw [hf] at T2
              refine T2 _ fun yv H4 k4 F5 hy5 => ?_
              cases hq : Ev.lcLoop (wipeE ρ vs) gg ga fa (ds.drop (i + 1)) D4 with
              | stuck => rw [hq] at hz; cases hz
              | err c fs D5 => rw [hq] at hz; cases hz
              | ok zs2 D5 =>
                rw [hq] at hz
                simp only [bind_ok] at hz
                cases hz
                have hp4 : H4 p = some (.lst (rs.map V.ref)) := k4.c p _ (k3.c p _ hp2 (.inr nch)) (.inr nch)
                obtain ⟨ysr, rfl⟩ := hfa _ _ _ _ hf
                have hacc3 : RowsL (p :: S) H3 rs xs := hacc2.mk (fun r m o e => k3.c r o e (.inr (nchr r m))) k3.s
                have hacc4 : RowsL (p :: S) H4 rs xs := hacc3.mk (fun r m o e => k4.c r o e (.inr (nchr r m))) k4.s
                obtain ⟨p', rfl, np', _, hf5⟩ := hy5
                obtain ⟨us, er, hd5⟩ : ∃ us, H4 p' = some (.lst us) ∧ DtL (p' :: p :: S) H4 us ysr := by
                  rcases hf5 with ⟨vs1, xs1, e, e1, e2⟩ | ⟨vs1, xs1, e, e1, e2⟩ | ⟨vs1, xs1, e, e1, e2⟩
                  · cases e; exact ⟨vs1, e1, e2⟩
                  · cases e
                  · cases e
                have npS : p' ∉ S := fun m => F4.dom p' (List.mem_cons_of_mem _ m) np'
                have npp : p' ≠ p := fun z => by
                  rw [z] at np'
                  exact noNone (k3.c p _ hp2 (.inr nch)) np'
                have npr : p' ∉ rs := fun m => by
                  obtain ⟨o, eo⟩ := hacc3.there p' m
                  exact noNone eo np'
                have n0 : H p' = none := up_none F x3.kp np' npS
                have hacc5 : RowsL (p :: S) H4 (rs ++ [p']) (xs ++ [.list ysr]) := hacc4.snoc er (hd5.sub fun b m => List.mem_cons_of_mem _ m)
                have nd5 : (p :: (rs ++ [p'])).Nodup ∧ ∀ b ∈ rs ++ [p'], H b = none := by
                  obtain ⟨q1, q2⟩ := List.nodup_cons.mp hnd.1
                  refine ⟨List.nodup_cons.mpr ⟨fun m => ?_, List.nodup_append.mpr ⟨q2, List.nodup_cons.mpr ⟨List.not_mem_nil, List.nodup_nil⟩, fun a ma b mb e => ?_⟩⟩, fun b m => ?_⟩
                  · rcases List.mem_append.mp m with m | m
                    · exact q1 m
                    · exact npp (List.mem_singleton.mp m).symm
                  · rw [List.mem_singleton.mp mb] at e
                    rw [e] at ma
                    exact npr ma
                  · rcases List.mem_append.mp m with m | m
                    · exact hnd.2 b m
                    · rw [List.mem_singleton.mp m]; exact n0
                have x4 := x3.trans (Ext.of k4.s)
                have F6 : Fm C (p :: S) ρ D4 σ H4 := back F5 ((Ext.of k3.s).trans (Ext.of k4.s))
                have noown0 : ∀ (j : Nat) (u : Fx.T), ρ[j]? = some (some u) → own u = true → σ[j]? ≠ some (some (V.ref p)) := fun j u e o s => by
                  obtain ⟨a, ea, ma⟩ := F.ownS e o s
                  cases ea
                  exact np ma
                obtain ⟨F7, k7⟩ := wr (us := rs.map V.ref ++ [.ref p']) F6 hp4 noown0
                have ap : rs.map V.ref ++ [V.ref p'] = (rs ++ [p']).map V.ref := by rw [List.map_append]; rfl
                refine ⟨rs.map V.ref, hp4, by rw [List.length_map, hacc4.len]; exact bigM (by omega), D4, rs ++ [p'], xs ++ [.list ysr], F7, (((c1.trans k2.of).trans k3.c).trans k4.c).put n, x4.trans (Ext.of k7), by rw [upd_same, ap], hacc5.mk (fun r m o e => by rw [upd_ne (fun z => by rw [z] at m; exact (List.nodup_cons.mp nd5.1).1 m)]; exact e) k7, nd5, ?_, zs2, hq, ?_⟩
                · rw [List.length_append]
                  show xs.length + 1 ≤ i + 1
                  omega
                · rw [List.append_assoc]
                  rfl
  · have : i = ds.length := by omega
    subst this
    refine .inl ⟨hstop rfl, ?_⟩
    rw [List.drop_length] at hz
    unfold Ev.lcLoop at hz
    cases hz
    rw [List.append_nil] at q
    exact q rs H1 (F.shrink F1) ⟨c1, x1.kp⟩ hp1 (hacc.sub fun b m => List.mem_cons_of_mem _ m) hnd.1 hnd.2
end
end Fx
set_option Elab.async false
set_option linter.all false
set_option maxRecDepth 100000
set_option maxHeartbeats 2000000
namespace Fx
open PySem PySem.Spec PyProof.Rows L2 Kb LamX NdefX
variable [Nm]
/-! ### rows: got, put, taken out -/
section
variable {S S' : List Addr} {H H' : Hp} {rs : List Addr} {ys : List PyData}
theorem RowsL.get {k : Nat} {d : PyData} (h : RowsL S H rs ys) (e : ys[k]? = some d) : ∃ r vs xs, rs[k]? = some r ∧ d = .list xs ∧ H r = some (.lst vs) ∧ DtL S H vs xs := by
  induction h generalizing k with
  | nil => cases e
  | @cons r rs vs xs ys e1 d1 h ih =>
    cases k with
    | zero => cases e; exact ⟨r, vs, xs, rfl, rfl, e1, d1⟩
    | succ k => exact ih e
theorem RowsL.put {k : Nat} {r : Addr} {us : List V} {xs : List PyData} (h : RowsL S H rs ys) (nd : rs.Nodup) (e : rs[k]? = some r) (k0 : Kp (r :: S) H (upd H r (.lst us))) (hS : ∀ vs xs, DtL S H vs xs → DtL S (upd H r (.lst us)) vs xs) (d : DtL S (upd H r (.lst us)) us xs) : RowsL S (upd H r (.lst us)) rs (ys.set k (.list xs)) := by
  induction h generalizing k with
  | nil => cases e
  | @cons r1 rs vs1 xs1 ys e1 d1 h ih =>
    obtain ⟨n1, n2⟩ := List.nodup_cons.mp nd
    cases k with
    | zero =>
      cases e
      refine .cons upd_same d ?_
      have : ∀ {rs : List Addr} {ys : List PyData}, RowsL S H rs ys → r ∉ rs → RowsL S (upd H r (.lst us)) rs ys := fun {rs ys} h n => by
        induction h with
        | nil => exact .nil
        | cons e d h ih => exact .cons (by rw [upd_ne (fun z => n (by rw [← z]; exact List.mem_cons_self))]; exact e) (hS _ _ d) (ih (fun m => n (List.mem_cons_of_mem _ m)))
      exact this h n1
    | succ k =>
      have e : rs[k]? = some r := e
      have ne : r1 ≠ r := fun z => n1 (by rw [z]; exact List.mem_of_getElem? e)
      exact .cons (by rw [upd_ne ne]; exact e1) (hS _ _ d1) (ih n2 e)
theorem RowsL.erase {k : Nat} (h : RowsL S H rs ys) : RowsL S H (rs.eraseIdx k) (ys.eraseIdx k) := by
  induction h generalizing k with
  | nil => exact .nil
  | cons e d h ih =>
    cases k with
    | zero => exact h
    | succ k => exact .cons e d ih
end
section
variable {ι : Type} {X : ι → Cx} {C : Ct} {E : XK} {fr : Bool} {S : List Addr} {ρ ρ' : Env} {D : Dw} {σ : St} {H : Hp} {Dn : Ends}
variable {a b c e : Expr} {st : Stmt} {fa fb fc : EX} {ga gb : EB} {aa : EA} {f g : ST}
/-- what only we hold is written -/
theorem Fm.write {p : Addr} {us us0 : List V} (F : Fm C S ρ D σ H) (hb : H p = some (.lst us0)) (nc : p ∉ C.ch) (n0 : C.H0 p = none) (hl : ρ'.length = ρ.length)
    (only : ∀ (i : Nat) (t : T), ρ'[i]? = some (some t) → own t = false ∧ ∃ v, σ[i]? = some (some v) ∧ Rt C S (upd H p (.lst us)) v t) : Fm C S ρ' D σ (upd H p (.lst us)) where
  len := F.len.trans hl.symm
  slot := fun i t e => (only i t e).2
  uniq := fun i j t u v _ e _ o _ _ _ => by rw [(only i t e).1] at o; cases o
  base := F.base
  dom := fun a m => by
    by_cases h : a = p
    · rw [h, upd_same]; exact fun z => by cases z
    · rw [upd_ne h]; exact F.dom a m
  kp := F.kp.put n0
  tb := F.tb.off (S := [p]) (Kp.refl.set List.mem_cons_self fun u hu => by rw [hb] at hu; cases hu; rfl) (fun a m ps z => by rw [List.mem_singleton.mp m, hb] at z; cases z) (fun a m o q e z => by
    rw [List.mem_singleton.mp m, hb] at e
    cases e; cases z)
  dr := by
    have hd := F.dr
    unfold DrO at *
    split at hd
    · rename_i d w c ec
      have m1 : d ∈ C.ch := List.mem_append_right _ (by unfold Ct.dch; rw [ec]; simp)
      have m2 : w ∈ C.ch := List.mem_append_right _ (by unfold Ct.dch; rw [ec]; simp)
      have x1 : d ≠ p := fun z => nc (z ▸ m1)
      have x2 : w ≠ p := fun z => nc (z ▸ m2)
      have x3 : c ≠ p := fun z => F.drc d w c ec (z ▸ n0)
      exact ⟨by rw [upd_ne x1]; exact hd.dr, by rw [upd_ne x2]; exact hd.wi, by rw [upd_ne x3]; exact hd.ce, hd.lw, hd.lc, hd.wc⟩
    · trivial
  drc := F.drc
/-- i, j = [new lists ..], x -/
theorem ps_rows {tg iter elt : Expr} {ifs : List Expr} {scope : Scope} {it : EA} {gg : EG} {vs ks : List Nat} {i j : Nat} (hp : ∀ i_ w t tt te tb, PI (X i_) tg iter w → (∀ (s : Shared) (H : Hp) (A : Addr) (cl : List (Str × Addr)) (fp : List Addr), PG ((X i_).blk s H scope (compEnvC scope cl A (X i_).env) fp) tg t) → (∀ (s : Shared) (H : Hp) (A : Addr) (cl : List (Str × Addr)) (fp : List Addr), PTs ((X i_).blk s H scope (compEnvC scope cl A (X i_).env) fp) ifs tt) →
      (∀ (s : Shared) (H : Hp) (A : Addr) (cl : List (Str × Addr)) (fp : List Addr), PE ((X i_).blk s H scope (compEnvC scope cl A (X i_).env) fp) elt te) → PE (X i_) b tb → PS (X i_) st (tPar i j (tCons (tLc w t tt te vs) (tCons tb tNil))))
    (hi : VI X C E0 tg iter it) (hg : VG (blkX X scope) C tg ks gg) (ht : VTs (blkX X scope) C E0 ifs ga) (he : VF (blkX X scope) C E0 elt fa) (hb : VE X C E0 b fb) (hks : ∀ k ∈ ks, k ∈ vs) (hfa : ∀ ρ D y D', fa ρ D = .ok y D' → ∃ xs, y = .list xs) :
    ∃ t, (∀ i_, PS (X i_) st t) ∧ ∀ S ρ D σ H Dn ds D1 ys D2 x D3, Fm C S ρ D σ H → it ρ D = .ok ds D1 → ds.length < 10000000 → Ev.noOwn ρ vs = true → Ev.lcLoop (wipeE ρ vs) gg ga fa ds D1 = .ok ys D2 → fb ρ D2 = .ok x D3 →
      (∀ p rs H' v, Fm C S ρ D3 σ H' → Kp C.ch H H' → H' p = some (.lst (rs.map V.ref)) → RowsL S H' rs ys → (p :: rs).Nodup → (∀ b ∈ p :: rs, H b = none) → Dt S H' v x → Dn.nx ((σ.set i (some (.ref p))).set j (some v)) H') → t Dn σ H := by
  obtain ⟨w, pw, qw⟩ := hi.ex
  obtain ⟨t, pt, qt⟩ := hg.ex
  obtain ⟨tt, ptt, qi⟩ := ht.ex
  obtain ⟨te, pe, qe⟩ := he.ex
  obtain ⟨tb, pb, qb⟩ := hb.ex
  refine ⟨_, fun i_ => hp i_ w t tt te tb (pw i_) (fun s H A cl fp => pt (i_, s, H, A, cl, fp)) (fun s H A cl fp => ptt (i_, s, H, A, cl, fp)) (fun s H A cl fp => pe (i_, s, H, A, cl, fp)) (pb i_), fun S ρ D σ H Dn ds D1 ys D2 x D3 F e1 hl hno e2 e3 q => ?_⟩
  show tLc w t tt te vs σ H fun x H1 => tb σ H1 fun y H2 => ∃ v w, [x, y] = [v, w] ∧ Dn.nx ((σ.set i (some v)).set j (some w)) H2
  have A := qw S ρ D σ H F
  rw [e1] at A
  refine A _ fun J H1 k1 F1 hJ => ?_
  refine fun p n => lc_rows (Q := fun x H1 => tb σ H1 fun y H2 => ∃ v w, [x, y] = [v, w] ∧ Dn.nx ((σ.set i (some v)).set j (some w)) H2) hks qt qi qe hfa F1 hJ hl hno e2 n fun rs H2 F2 k2 hp2 hr hnd hnn => ?_
  have B := qb S ρ D2 σ H2 F2
  rw [e3] at B
  refine B _ fun y H3 k3 F3 h3 => ⟨_, _, rfl, ?_⟩
  have n1 : ∀ b ∈ p :: rs, H1 b = none := fun b m => (List.mem_cons.mp m).elim (fun z => z ▸ n) (hnn b)
  have nS : ∀ b ∈ p :: rs, b ∉ S := fun b m z => F1.dom b z (n1 b m)
  have nc : ∀ b ∈ p :: rs, b ∉ C.ch := fun b m z => nS b m (F1.base b (.inl z))
  refine q p rs H3 y F3 ((k1.c.trans k2.c).trans k3.c) (k3.c _ _ hp2 (.inr (nc p List.mem_cons_self))) (hr.mk (fun r m o e => k3.c r o e (.inr (nc r (List.mem_cons_of_mem _ m)))) k3.s) hnd (fun b m => up_none F k1.s (n1 b m) (nS b m)) h3
/-- r[k] = x, r a list that is held by name i -/
theorem ps_putRow {i : Nat} (va : VE X C E0 a fa) (vb : VE X C E0 b fb) (hp : ∀ i_ ta tb, PE (X i_) a ta → PE (X i_) b tb → PS (X i_) st (tAsg ta (gSub (tVar i) tb rSetL))) :
    ∃ t, (∀ i_, PS (X i_) st t) ∧ ∀ S ρ D σ H Dn x k D1 D2 r us j, Fm C S ρ D σ H → fa ρ D = .ok x D1 → fb ρ D1 = .ok (.int k) D2 → σ[i]? = some (some (.ref r)) → H r = some (.lst us) → r ∉ C.ch → ixN us.length k = some j →
      (∀ v H', Fm C S ρ D2 σ H' → Kq C S H H' → Dt S H' v x → H' r = some (.lst us) → Dn.nx σ (upd H' r (.lst (us.set j v)))) → t Dn σ H := by
  obtain ⟨ta, pa, qa⟩ := va.ex
  obtain ⟨tb, pb, qb⟩ := vb.ex
  refine ⟨_, (fun i_ => hp i_ ta tb (pa i_) (pb i_)), fun S ρ D σ H Dn x k D1 D2 r us j F e1 e2 s hr nc hj q => ?_⟩
  show ta σ H fun x H1 => ∃ o, σ[i]? = some (some o) ∧ tb σ H1 fun k H2 => rSetL o k x H2 fun H3 => Dn.nx σ H3
  have A := qa S ρ D σ H F
  rw [e1] at A
  refine A _ fun v H1 k1 F1 h1 => ⟨_, s, ?_⟩
  have B := qb S ρ D1 σ H1 F1
  rw [e2] at B
  refine B _ fun y H2 k2 F2 h2 => ?_
  have hr2 : H2 r = some (.lst us) := k2.c r _ (k1.c r _ hr (.inr nc)) (.inr nc)
  cases h2
  exact ⟨r, us, k, j, rfl, rfl, hr2, hj, q v H2 F2 (k1.trans k2) (h1.kp k2.s) hr2⟩
/-- l.pop(k) -/
theorem ps_popRow {i j : Nat} (hp : ∀ i_, PS (X i_) st (tDrop (tBM C.G.K "list" rPopAt (tVar i) (tCons (tVar j) tNil)))) :
    ∃ t, (∀ i_, PS (X i_) st t) ∧ ∀ σ H Dn l us (k : Nat) y, σ[i]? = some (some (.ref l)) → H l = some (.lst us) → σ[j]? = some (some (.int k)) → us[k]? = some y → k < 10000000 → Dn.nx σ (upd H l (.lst (us.eraseIdx k))) → t Dn σ H := by
  refine ⟨_, hp, fun σ H Dn l us k y s1 hl s2 hy hk q => ?_⟩
  show ∃ v, σ[i]? = some (some v) ∧ tyV C.G.K "list" v H ∧ ∃ w, σ[j]? = some (some w) ∧ rPopAt v [w] H fun _ H3 => Dn.nx σ H3
  have hlt := (List.getElem?_eq_some_iff.mp hy).1
  exact ⟨_, s1, .inl ⟨rfl, us, sqL hl⟩, _, s2, l, us, (k : Int), k, y, rfl, rfl, hl, by omega, by omega, by
    have := (ixN_seq (n := us.length) (i := (k : Int)) (j := k) (by unfold ixN; rw [if_pos (by omega), if_pos (by omega)]; simp)).1
    exact this, hy, q⟩
/-- l.append(x) -/
theorem ps_appRow {i : Nat} (va : VE X C E0 a fa) (hp : ∀ i_ ta, PE (X i_) a ta → PS (X i_) st (tDrop (tBM C.G.K "list" rAppend (tVar i) (tCons ta tNil)))) :
    ∃ t, (∀ i_, PS (X i_) st t) ∧ ∀ S ρ D σ H Dn x D1 l us, Fm C S ρ D σ H → fa ρ D = .ok x D1 → σ[i]? = some (some (.ref l)) → H l = some (.lst us) → l ∉ C.ch → us.length < 10000000 →
      (∀ v H', Fm C S ρ D1 σ H' → Kq C S H H' → Dt S H' v x → H' l = some (.lst us) → Dn.nx σ (upd H' l (.lst (us ++ [v])))) → t Dn σ H := by
  obtain ⟨ta, pa, qa⟩ := va.ex
  refine ⟨_, (fun i_ => hp i_ ta (pa i_)), fun S ρ D σ H Dn x D1 l us F e1 s hl nc hlen q => ?_⟩
  show ∃ v, σ[i]? = some (some v) ∧ tyV C.G.K "list" v H ∧ ta σ H fun y H2 => rAppend v [y] H2 fun _ H3 => Dn.nx σ H3
  refine ⟨_, s, .inl ⟨rfl, us, sqL hl⟩, ?_⟩
  have A := qa S ρ D σ H F
  rw [e1] at A
  refine A _ fun v H1 k1 F1 h1 => ?_
  have hl1 : H1 l = some (.lst us) := k1.c l _ hl (.inr nc)
  exact ⟨l, us, v, rfl, rfl, hl1, bigM hlen, q v H1 F1 k1 h1 hl1⟩
end
end Fx
set_option Elab.async false
set_option linter.all false
set_option maxRecDepth 100000
set_option maxHeartbeats 2000000
namespace Fx
open PySem PySem.Spec PyProof.Rows L2 Kb LamX NdefX
variable [Nm]
/-! ### statements by what they do to the names -/
section
variable {ι : Type} {X : ι → Cx} {C : Ct} {E : XK} {fr : Bool} {S : List Addr} {ρ ρ' : Env} {D : Dw} {σ : St} {H : Hp} {Dn : Ends}
variable {a b c e : Expr} {st : Stmt} {fa fb fc : EX} {ga gb : EB} {aa : EA} {f g : ST}
theorem ps_setR {i : Nat} (va : VE X C E0 a fa) (hp : ∀ i_ ta, PE (X i_) a ta → PS (X i_) st (tAsg ta (gName i))) :
    ∃ t, (∀ i_, PS (X i_) st t) ∧ ∀ S ρ D σ H Dn x D1, Fm C S ρ D σ H → fa ρ D = .ok x D1 → (∀ v H', Fm C S ρ D1 σ H' → Kq C S H H' → Dt S H' v x → Dn.nx (σ.set i (some v)) H') → t Dn σ H := by
  obtain ⟨ta, pa, qa⟩ := va.ex
  refine ⟨_, (fun i_ => hp i_ ta (pa i_)), fun S ρ D σ H Dn x D1 F e1 q => ?_⟩
  show ta σ H fun x H1 => Dn.nx (σ.set i (some x)) H1
  have A := qa S ρ D σ H F
  rw [e1] at A
  exact A _ fun v H1 k1 F1 h1 => q v H1 F1 k1 h1
/-- i = l[k], a list held by name -/
theorem ps_rowIx {i j k : Nat} (hp : ∀ i_, PS (X i_) st (tAsg (tOp (rIx C.G.K) (tVar j) (tVar k)) (gName i))) :
    ∃ t, (∀ i_, PS (X i_) st t) ∧ ∀ σ H Dn l us (n : Nat) y, σ[j]? = some (some (.ref l)) → H l = some (.lst us) → σ[k]? = some (some (.int n)) → us[n]? = some y → Dn.nx (σ.set i (some y)) H → t Dn σ H := by
  refine ⟨_, hp, fun σ H Dn l us n y s1 hl s2 hy q => ?_⟩
  show ∃ v, σ[j]? = some (some v) ∧ ∃ w, σ[k]? = some (some w) ∧ rIx C.G.K v w H fun x H1 => Dn.nx (σ.set i (some x)) H1
  refine ⟨_, s1, _, s2, .inl ⟨l, us, (n : Int), y, rfl, rfl, sqL hl, ?_, q⟩⟩
  unfold atI ixN
  have hlt := (List.getElem?_eq_some_iff.mp hy).1
  rw [if_pos (by omega), if_pos (by omega)]
  simpa using hy
/-- one that only jumps by a test -/
theorem VT.rd (h : VT X C E0 c ga) : ∃ t, (∀ i_, PT (X i_) c t) ∧ ∀ S ρ D σ H b D1, Fm C S ρ D σ H → ga ρ D = .ok b D1 → ∀ Q : Bool → Hp → Prop, (∀ H', Kq C S H H' → Fm C S ρ D1 σ H' → Q b H') → t σ H Q := by
  obtain ⟨t, p, q⟩ := h.ex
  refine ⟨t, p, fun S ρ D σ H b D1 F e Q hq => ?_⟩
  have A := q S ρ D σ H F
  rw [e] at A
  exact A Q hq
theorem VSs.rd_ret {sts : List Stmt} (h : VSs X C E0 fr sts f) : ∃ t, (∀ i_, PSs (X i_) sts t) ∧ ∀ S ρ D σ H Dn d ρ' D1, Fm C S ρ D σ H → f ρ D = .ok (.ret d, ρ') D1 → (∀ v H', EndOk C D1 H' → Rv C fr H' v d → Dn.rt v H') → t Dn σ H := by
  obtain ⟨t, p, q⟩ := h.ex
  refine ⟨t, p, fun S ρ D σ H Dn d ρ' D1 F e hq => ?_⟩
  have A := q S ρ D σ H Dn F
  rw [e] at A
  exact A hq
end
end Fx
set_option Elab.async false
set_option linter.all false
set_option maxRecDepth 100000
set_option maxHeartbeats 2000000
namespace Fx
open PySem PySem.Spec PyProof.Rows L2 Kb
variable [Nm]
/-! ### x is not True -/
def gNotB : PyData → PyData → Option PyData
  | .bool a, .bool b => some (.bool (!decide (a = b)))
  | _, _ => none
section
variable {ι : Type} {X : ι → Cx} {C : Ct} {E : XK}
variable {a b c e : Expr} {pos : Pos} {fa fb fc : EX}
theorem d_notB : DOp2 C rNotB gNotB := by
  intro S H x y d e res hx hy hS hr Q hq
  unfold gNotB at hr
  split at hr
  · cases hr
    exact ⟨_, _, hx.bl_inv, hy.bl_inv, hq _ _ .refl (.bl _)⟩
  · cases hr
theorem ve_notB (ha : VB X C E a fa) (hb : VB X C E b fb) : VE X C E (.Compare a [.IsNot] [b] pos) (Ev.o2 gNotB fa fb) := ve_cmp (fun _ => op_notBl) d_notB ha hb (nomark _)
theorem vt_notB (ha : VB X C E a fa) (hb : VB X C E b fb) : VT X C E (.Compare a [.IsNot] [b] pos) (Ev.tb (Ev.o2 gNotB fa fb)) := vt_cmp (fun _ => op_notBl) d_notB ha hb (nomark _)
end
@[simp] theorem x_notB (a b : Bool) : gNotB (.bool a) (.bool b) = some (.bool (!decide (a = b))) := nr rfl
end Fx
set_option Elab.async false
set_option linter.all false
set_option maxRecDepth 100000
set_option maxHeartbeats 4000000
namespace K78
open PySem PySem.Spec PyProof.Rows L2 Kb Fx LamX NdefX
variable [Nm]
def topS (i : Nat) : Stmt := PySem.Challenge.pw_onebase_k78_fewest_steps_and_most_rifts.main.body.getD i (.Pass ⟨0, 0, 0, 0⟩)
structure Bi (mg : Str → Option Value) : Prop where
  m_isinstance : mg "isinstance" = none
  m_int : mg "int" = none
  m_bool : mg "bool" = none
  m_str : mg "str" = none
  m_tuple : mg "tuple" = none
  m_list : mg "list" = none
  m_dict : mg "dict" = none
  m_len : mg "len" = none
  m_zip : mg "zip" = none
  m_range : mg "range" = none
  m_enumerate : mg "enumerate" = none
  m_abs : mg "abs" = none
  m_min : mg "min" = none
  m_max : mg "max" = none
  m_sum : mg "sum" = none
  m_sorted : mg "sorted" = none
  m_all : mg "all" = none
  m_any : mg "any" = none
  m_divmod : mg "divmod" = none
  m_repr : mg "repr" = none
def errs : List Str := ["LinkError", "BadPatch", "BadRun"]
def subP : List (Str × Str) := [("LinkError", "LinkError"), ("BadPatch", "BadPatch"), ("BadPatch", "LinkError"), ("BadRun", "BadRun"), ("BadRun", "LinkError")]
def subE (c x : Str) : Bool := decide ((c, x) ∈ subP)
def k_SIGNS : PyData := (.str "ABCDEFGHIJKLMNOPQRSTUVWXYZabcdefghijklmnopqrstuvwxyz0123456789+-")
abbrev s_is_number : Stmt := topS 5
theorem sc_is_number : FnScope ["thing"] ["thing"] (defScope s_is_number) := ⟨rfl, rfl, rfl, by decide +kernel, rfl, by decide +kernel, by decide +kernel⟩
theorem bd_is_number {K : PySem.W.Frag} {f : Addr} {fd : FuncData} (F : Fun K "is_number" "is_number" s_is_number f fd) : Binds K fd ["thing"] [] := F.binds (fun _ _ _ _ _ _ us hl => match us, hl with | [_], _ => rfl)
def b_is_number : ST :=
    (Sv.ret (Ev.andv (Ev.u1 (isiD "int") (Ev.var 0)) (Ev.notv (Ev.u1 (isiD "bool") (Ev.var 0)))))
def f_is_number := runF false false false 1 b_is_number
theorem ok_is_number {P : Program} {w : World} {K : PySem.W.Frag} {mg : Str → Option Value} {base : Heap} {Ts : List Addr} {Tq : List (Addr × Str)} {fv : Nat → V} (T : Bi mg) {a : Addr} {fd : FuncData} (D0 : DefAt K mg "is_number" s_is_number a fd)
    : ∀ (base' : Heap) (lm : Lam), BX base base' → FnOk P w K mg base' CX0 2 a fd ["thing"] (spF (GG K w mg Ts Tq fv lm) false false 1 f_is_number) := by
  intro base' lm hb0
  refine okF D0.F sc_is_number rfl (by decide) (fun cdv A outer s H E U dd hr => ?_)
  have hu65 := room65 hr
  have hu64 := room64 hr
  have hu1 := room1 hr
  have hu0 := room0 hr
  exact (vss_one (vs_ret (ve_and ⟨fun _ => rfl, fun _ => rfl, fun _ => rfl⟩ (ve_isi (T := "int") (fb := fun _ D => .stuck) ⟨fun _ => rfl, fun _ => rfl, fun _ => rfl⟩ (vb_var 0 (fun _ => pv 0)) (fun _ _ p => pe_callB call_isi (by rfl) T.m_isinstance (by decide +kernel) (pa_cons p (pa_cons (pe_bltn (v := .ty "int") (by rfl) T.m_int (by decide +kernel) rfl) pa_nil)))) (ve_one (ve_not ⟨fun _ => rfl, fun _ => rfl, fun _ => rfl⟩ (VE.b (ve_isi (T := "bool") (fb := fun _ D => .stuck) ⟨fun _ => rfl, fun _ => rfl, fun _ => rfl⟩ (vb_var 0 (fun _ => pv 0)) (fun _ _ p => pe_callB call_isi (by rfl) T.m_isinstance (by decide +kernel) (pa_cons p (pa_cons (pe_bltn (v := .ty "bool") (by rfl) T.m_bool (by decide +kernel) rfl) pa_nil))))))))))
abbrev s_within : Stmt := topS 6
theorem sc_within : FnScope ["thing", "low", "high"] ["thing", "low", "high"] (defScope s_within) := ⟨rfl, rfl, rfl, by decide +kernel, rfl, by decide +kernel, by decide +kernel⟩
theorem bd_within {K : PySem.W.Frag} {f : Addr} {fd : FuncData} (F : Fun K "within" "within" s_within f fd) : Binds K fd ["thing", "low", "high"] [] := F.binds (fun _ _ _ _ _ _ us hl => match us, hl with | [_, _, _], _ => rfl)
def b_within : ST :=
    (Sv.ret (Ev.andv (Ev.call0 1 f_is_number (Ev.cons (Ev.dat 0) Ev.nil)) (Ev.chain (gB cLe) (gB cLe) (Ev.var 1) (Ev.var 0) (Ev.var 2))))
def f_within := runF false false false 3 b_within
theorem ok_within {P : Program} {w : World} {K : PySem.W.Frag} {mg : Str → Option Value} {base : Heap} {Ts : List Addr} {Tq : List (Addr × Str)} {fv : Nat → V} (T : Bi mg) {a : Addr} {fd : FuncData} (D0 : DefAt K mg "within" s_within a fd)
    {a_is_number : Addr} {d_is_number : FuncData} (D_is_number : DefAt K mg "is_number" s_is_number a_is_number d_is_number)
    (G_is_number : ∀ (b : Heap) (lm : Lam), BX base b → FnOk P w K mg b CX0 2 a_is_number d_is_number ["thing"] (spF (GG K w mg Ts Tq fv lm) false false 1 f_is_number))
    : ∀ (base' : Heap) (lm : Lam), BX base base' → FnOk P w K mg base' CX0 3 a fd ["thing", "low", "high"] (spF (GG K w mg Ts Tq fv lm) false false 3 f_within) := by
  intro base' lm hb0
  have g_is_number := G_is_number _ lm hb0
  refine okF D0.F sc_within rfl (by decide) (fun cdv A outer s H E U dd hr => ?_)
  have hu65 := room65 hr
  have hu64 := room64 hr
  have hu1 := room1 hr
  have hu0 := room0 hr
  exact (vss_one (vs_ret (ve_and ⟨fun _ => rfl, fun _ => rfl, fun _ => rfl⟩ (ve_call0 (va_cons (ve_var 0 (fun _ => pv 0)) va_nil) (fun j_ _ p => pe_call g_is_number (hr.mono (by decide)) (by rfl) D_is_number.g D_is_number.F.kp (bd_is_number D_is_number.F) .nil pass0 p)) (ve_one (ve_ch (p := cLe) (p' := cLe) (fun _ => op_le) (fun _ => op_le) (vb_var 1 (fun _ => pv 1)) (vb_var 0 (fun _ => pv 0)) (vb_var 2 (fun _ => pv 2)) (by with_unfolding_all rfl))))))
abbrev s_is_cell : Stmt := topS 7
theorem sc_is_cell : FnScope ["thing"] ["thing"] (defScope s_is_cell) := ⟨rfl, rfl, rfl, by decide +kernel, rfl, by decide +kernel, by decide +kernel⟩
theorem bd_is_cell {K : PySem.W.Frag} {f : Addr} {fd : FuncData} (F : Fun K "is_cell" "is_cell" s_is_cell f fd) : Binds K fd ["thing"] [] := F.binds (fun _ _ _ _ _ _ us hl => match us, hl with | [_], _ => rfl)
def b_is_cell : ST :=
    (Sv.ret (Ev.call0 3 f_within (Ev.cons (Ev.dat 0) (Ev.cons (Ev.c (.int 0)) (Ev.cons (Ev.c (.int 63)) Ev.nil)))))
def f_is_cell := runF false false false 1 b_is_cell
theorem ok_is_cell {P : Program} {w : World} {K : PySem.W.Frag} {mg : Str → Option Value} {base : Heap} {Ts : List Addr} {Tq : List (Addr × Str)} {fv : Nat → V} (T : Bi mg) {a : Addr} {fd : FuncData} (D0 : DefAt K mg "is_cell" s_is_cell a fd)
    {a_within : Addr} {d_within : FuncData} (D_within : DefAt K mg "within" s_within a_within d_within)
    (G_within : ∀ (b : Heap) (lm : Lam), BX base b → FnOk P w K mg b CX0 3 a_within d_within ["thing", "low", "high"] (spF (GG K w mg Ts Tq fv lm) false false 3 f_within))
    : ∀ (base' : Heap) (lm : Lam), BX base base' → FnOk P w K mg base' CX0 4 a fd ["thing"] (spF (GG K w mg Ts Tq fv lm) false false 1 f_is_cell) := by
  intro base' lm hb0
  have g_within := G_within _ lm hb0
  refine okF D0.F sc_is_cell rfl (by decide) (fun cdv A outer s H E U dd hr => ?_)
  have hu65 := room65 hr
  have hu64 := room64 hr
  have hu1 := room1 hr
  have hu0 := room0 hr
  exact (vss_one (vs_ret (ve_call0 (va_cons (ve_var 0 (fun _ => pv 0)) (va_cons ve_int (va_cons ve_int va_nil))) (fun j_ _ p => pe_call g_within (hr.mono (by decide)) (by rfl) D_within.g D_within.F.kp (bd_within D_within.F) .nil pass0 p))))
abbrev s_are_cells : Stmt := topS 8
theorem sc_are_cells : FnScope ["thing"] ["thing"] (defScope s_are_cells) := ⟨rfl, rfl, rfl, by decide +kernel, rfl, by decide +kernel, by decide +kernel⟩
theorem bd_are_cells {K : PySem.W.Frag} {f : Addr} {fd : FuncData} (F : Fun K "are_cells" "are_cells" s_are_cells f fd) : Binds K fd ["thing"] [] := F.binds (fun _ _ _ _ _ _ us hl => match us, hl with | [_], _ => rfl)
def e_are_cells_1 : EX :=
    (Ev.call0 1 f_is_cell (Ev.cons (Ev.dat 1) Ev.nil))
def b_are_cells : ST :=
    (Sv.ret (Ev.andv (Ev.u1 (isiD2 "tuple" "list") (Ev.var 0)) (Ev.allG false 1 [1] (Iv.items (Ev.dat 0)) (Gv.name 1) e_are_cells_1)))
def f_are_cells := runF false false false 1 b_are_cells
theorem ok_are_cells {P : Program} {w : World} {K : PySem.W.Frag} {mg : Str → Option Value} {base : Heap} {Ts : List Addr} {Tq : List (Addr × Str)} {fv : Nat → V} (T : Bi mg) {a : Addr} {fd : FuncData} (D0 : DefAt K mg "are_cells" s_are_cells a fd)
    {a_is_cell : Addr} {d_is_cell : FuncData} (D_is_cell : DefAt K mg "is_cell" s_is_cell a_is_cell d_is_cell)
    (G_is_cell : ∀ (b : Heap) (lm : Lam), BX base b → FnOk P w K mg b CX0 4 a_is_cell d_is_cell ["thing"] (spF (GG K w mg Ts Tq fv lm) false false 1 f_is_cell))
    {c0 P0 : Addr} (hc0 : fd.code = .ref c0) (TB0 : GxR.TabB base mg c0 P0) (hP0 : P0 ∈ Ts) (hq0 : ∀ p ∈ Tq, p.1 ≠ P0)
    : ∀ (base' : Heap) (lm : Lam), BX base base' → FnOk P w K mg base' CX0 8 a fd ["thing"] (spF (GG K w mg Ts Tq fv lm) false false 1 f_are_cells) := by
  intro base' lm hb0
  have g_is_cell := G_is_cell _ lm hb0
  replace TB0 := gtab_grown TB0 hb0
  refine okFC D0.F hc0 sc_are_cells rfl (by decide) (fun A outer s H E U dd hr => ?_)
  have hu65 := room65 hr
  have hu64 := room64 hr
  have hu1 := room1 hr
  have hu0 := room0 hr
  exact (vss_one (vs_ret (ve_and ⟨fun _ => rfl, fun _ => rfl, fun _ => rfl⟩ (ve_isi2 (T := "tuple") (U := "list") (vb_var 0 (fun _ => pv 0)) (fun _ _ p => pe_callB call_isiT (by rfl) T.m_isinstance (by decide +kernel) (pa_cons p (pa_cons (pe_tup (pa_cons (pe_bltn (v := .ty "tuple") (by rfl) T.m_tuple (by decide +kernel) rfl) (pa_cons (pe_bltn (v := .ty "list") (by rfl) T.m_list (by decide +kernel) rfl) pa_nil))) pa_nil)))) (ve_one (ve_all (own := ["cell"]) (n := 1) (ks := [1]) hP0 hq0 (vi_items ⟨fun _ => rfl, fun _ => rfl, fun _ => rfl⟩ (ve_var 0 (fun _ => pv 0))) (vg_name (i := 1) (fun _ => pg_name (i := 1) (by exact (show (["thing", "cell"] : List Str).Nodup by decide)) (by rfl) (by first | exact Or.inl rfl | exact Or.inr rfl))) (ve_call0 (va_cons (ve_var 1 (fun _ => pv 1)) va_nil) (fun j_ _ p => pe_call g_is_cell ((hr.in1.in1.deeper _).mono (by decide)) (by rfl) D_is_cell.g D_is_cell.F.kp (bd_is_cell D_is_cell.F) .nil pass0 p)) (fun _ _ _ _ a b c => pe_allG (own := ["cell"]) hr (by rfl) T.m_all (by decide +kernel) rfl TB0 rfl (genOk_by (by rfl)) a b c))))))
abbrev s_is_word : Stmt := topS 9
theorem sc_is_word : FnScope ["thing", "word"] ["thing", "word"] (defScope s_is_word) := ⟨rfl, rfl, rfl, by decide +kernel, rfl, by decide +kernel, by decide +kernel⟩
theorem bd_is_word {K : PySem.W.Frag} {f : Addr} {fd : FuncData} (F : Fun K "is_word" "is_word" s_is_word f fd) : Binds K fd ["thing", "word"] [] := F.binds (fun _ _ _ _ _ _ us hl => match us, hl with | [_, _], _ => rfl)
def b_is_word : ST :=
    (Sv.ret (Ev.andv (Ev.u1 (isiD "str") (Ev.var 0)) (Ev.o2 gEq (Ev.var 0) (Ev.var 1))))
def f_is_word := runF false false false 2 b_is_word
theorem ok_is_word {P : Program} {w : World} {K : PySem.W.Frag} {mg : Str → Option Value} {base : Heap} {Ts : List Addr} {Tq : List (Addr × Str)} {fv : Nat → V} (T : Bi mg) {a : Addr} {fd : FuncData} (D0 : DefAt K mg "is_word" s_is_word a fd)
    : ∀ (base' : Heap) (lm : Lam), BX base base' → FnOk P w K mg base' CX0 2 a fd ["thing", "word"] (spF (GG K w mg Ts Tq fv lm) false false 2 f_is_word) := by
  intro base' lm hb0
  refine okF D0.F sc_is_word rfl (by decide) (fun cdv A outer s H E U dd hr => ?_)
  have hu65 := room65 hr
  have hu64 := room64 hr
  have hu1 := room1 hr
  have hu0 := room0 hr
  exact (vss_one (vs_ret (ve_and ⟨fun _ => rfl, fun _ => rfl, fun _ => rfl⟩ (ve_isi (T := "str") (fb := fun _ D => .stuck) ⟨fun _ => rfl, fun _ => rfl, fun _ => rfl⟩ (vb_var 0 (fun _ => pv 0)) (fun _ _ p => pe_callB call_isi (by rfl) T.m_isinstance (by decide +kernel) (pa_cons p (pa_cons (pe_bltn (v := .ty "str") (by rfl) T.m_str (by decide +kernel) rfl) pa_nil)))) (ve_one (ve_eq ⟨fun _ => rfl, fun _ => rfl, fun _ => rfl⟩ (fun _ => by exact hu64) (vb_var 0 (fun _ => pv 0)) (vb_var 1 (fun _ => pv 1)))))))
abbrev s_is_tagged : Stmt := topS 10
theorem sc_is_tagged : FnScope ["thing", "word", "many"] ["thing", "word", "many"] (defScope s_is_tagged) := ⟨rfl, rfl, rfl, by decide +kernel, rfl, by decide +kernel, by decide +kernel⟩
theorem bd_is_tagged {K : PySem.W.Frag} {f : Addr} {fd : FuncData} (F : Fun K "is_tagged" "is_tagged" s_is_tagged f fd) : Binds K fd ["thing", "word", "many"] [] := F.binds (fun _ _ _ _ _ _ us hl => match us, hl with | [_, _, _], _ => rfl)
def b_is_tagged : ST :=
    (Sv.ret (Ev.andv (Ev.u1 (isiD "tuple") (Ev.var 0)) (Ev.andv (Ev.o2 gEq (Ev.u1 lenD (Ev.var 0)) (Ev.var 2)) (Ev.call0 2 f_is_word (Ev.cons (Ev.o2 gIx (Ev.var 0) (Ev.c (.int 0))) (Ev.cons (Ev.dat 1) Ev.nil))))))
def f_is_tagged := runF false false false 3 b_is_tagged
theorem ok_is_tagged {P : Program} {w : World} {K : PySem.W.Frag} {mg : Str → Option Value} {base : Heap} {Ts : List Addr} {Tq : List (Addr × Str)} {fv : Nat → V} (T : Bi mg) {a : Addr} {fd : FuncData} (D0 : DefAt K mg "is_tagged" s_is_tagged a fd)
    {a_is_word : Addr} {d_is_word : FuncData} (D_is_word : DefAt K mg "is_word" s_is_word a_is_word d_is_word)
    (G_is_word : ∀ (b : Heap) (lm : Lam), BX base b → FnOk P w K mg b CX0 2 a_is_word d_is_word ["thing", "word"] (spF (GG K w mg Ts Tq fv lm) false false 2 f_is_word))
    : ∀ (base' : Heap) (lm : Lam), BX base base' → FnOk P w K mg base' CX0 3 a fd ["thing", "word", "many"] (spF (GG K w mg Ts Tq fv lm) false false 3 f_is_tagged) := by
  intro base' lm hb0
  have g_is_word := G_is_word _ lm hb0
  refine okF D0.F sc_is_tagged rfl (by decide) (fun cdv A outer s H E U dd hr => ?_)
  have hu65 := room65 hr
  have hu64 := room64 hr
  have hu1 := room1 hr
  have hu0 := room0 hr
  exact (vss_one (vs_ret (ve_and ⟨fun _ => rfl, fun _ => rfl, fun _ => rfl⟩ (ve_isi (T := "tuple") (fb := fun _ D => .stuck) ⟨fun _ => rfl, fun _ => rfl, fun _ => rfl⟩ (vb_var 0 (fun _ => pv 0)) (fun _ _ p => pe_callB call_isi (by rfl) T.m_isinstance (by decide +kernel) (pa_cons p (pa_cons (pe_bltn (v := .ty "tuple") (by rfl) T.m_tuple (by decide +kernel) rfl) pa_nil)))) (ve_and ⟨fun _ => rfl, fun _ => rfl, fun _ => rfl⟩ (ve_eq ⟨fun _ => rfl, fun _ => rfl, fun _ => rfl⟩ (fun _ => by exact hu64) (VE.b (ve_cl1 (fun _ _ p => pe_callB call_lenU (by rfl) T.m_len (by decide +kernel) (pa_cons p pa_nil)) d_len (vb_var 0 (fun _ => pv 0)))) (vb_var 2 (fun _ => pv 2))) (ve_one (ve_call0 (va_cons (ve_ix ⟨fun _ => rfl, fun _ => rfl, fun _ => rfl⟩ (fun _ => by exact hu1) (vb_var 0 (fun _ => pv 0)) (VE.b ve_int) (fun _ _ => rfl)) (va_cons (ve_var 1 (fun _ => pv 1)) va_nil)) (fun j_ _ p => pe_call g_is_word (hr.mono (by decide)) (by rfl) D_is_word.g D_is_word.F.kp (bd_is_word D_is_word.F) .nil pass0 p)))))))
abbrev s_text_of : Stmt := topS 14
theorem sc_text_of : FnScope ["run", "cell"] ["run"] (defScope s_text_of) := ⟨rfl, rfl, rfl, by decide +kernel, rfl, by decide +kernel, by decide +kernel⟩
theorem bd_text_of {K : PySem.W.Frag} {f : Addr} {fd : FuncData} (F : Fun K "text_of" "text_of" s_text_of f fd) : Binds K fd ["run"] [] := F.binds (fun _ _ _ _ _ _ us hl => match us, hl with | [_], _ => rfl)
def b_text_of : ST :=
    (Sv.seq (Sv.ite (Ev.tnot (Ev.tt (Ev.call0 1 f_are_cells (Ev.cons (Ev.dat 0) Ev.nil)))) (Sv.raise "BadRun") Sv.skip)
    (Sv.ret (Ev.sm1 gJoin (Ev.c (.str "")) (Ev.lc [1] (Iv.items (Ev.dat 0)) (Gv.name 1) Ev.yes (Ev.o2 gIx (Ev.c k_SIGNS) (Ev.var 1))))))
def f_text_of := runF true false false 2 b_text_of
theorem ok_text_of {P : Program} {w : World} {K : PySem.W.Frag} {mg : Str → Option Value} {base : Heap} {Ts : List Addr} {Tq : List (Addr × Str)} {fv : Nat → V} (T : Bi mg) {a : Addr} {fd : FuncData} (D0 : DefAt K mg "text_of" s_text_of a fd)
    {a_are_cells : Addr} {d_are_cells : FuncData} (D_are_cells : DefAt K mg "are_cells" s_are_cells a_are_cells d_are_cells)
    (G_are_cells : ∀ (b : Heap) (lm : Lam), BX base b → FnOk P w K mg b CX0 8 a_are_cells d_are_cells ["thing"] (spF (GG K w mg Ts Tq fv lm) false false 1 f_are_cells))
    (g_SIGNS : GAt mg "SIGNS" k_SIGNS)
    (e_BadRun : EcAt K mg "BadRun" (Nm.adr "BadRun"))
    : ∀ (base' : Heap) (lm : Lam), BX base base' → FnOk P w K mg base' (L2.CX P w) 9 a fd ["run"] (spF (GG K w mg Ts Tq fv lm) false false 1 f_text_of) := by
  intro base' lm hb0
  have g_are_cells := G_are_cells _ lm hb0
  refine okFx D0.F sc_text_of rfl (by decide) (fun cdv A outer s H E U dd hr => ?_)
  have hu65 := room65 hr
  have hu64 := room64 hr
  have hu1 := room1 hr
  have hu0 := room0 hr
  exact (vss_cons (vs_if (vt_not (vt_truth ⟨fun _ => rfl, fun _ => rfl, fun _ => rfl⟩ (VE.b (ve_call0 (va_cons (ve_var 0 (fun _ => pv 0)) va_nil) (fun j_ _ p => pe_call g_are_cells (hr.mono (by decide)) (by rfl) D_are_cells.g D_are_cells.F.kp (bd_are_cells D_are_cells.F) .nil pass0 p))))) (vss_one (vs_raise (fun _ => ps_raise rfl (takes_of rfl rfl rfl rfl) (pmk_own PySem.F.excBase_ValueError e_BadRun.exc e_BadRun.g e_BadRun.kp (raises_own e_BadRun.sub e_BadRun.ty) (by rfl))))) vss_nil)
      (vss_one (vs_ret (ve_sm1 d_join (fun i_ _ _ p q => pe_bm PySem.F.plainAttrs_str PySem.F.slot_str_join PySem.F.type_str_join mt_join p (pa_cons q pa_nil)) (VE.b ve_str) (VE.b (VF.ve (vf_lc (vs := [1]) (vi_items ⟨fun _ => rfl, fun _ => rfl, fun _ => rfl⟩ (ve_var 0 (fun _ => pv 0))) (vg_name (i := 1) (fun _ => pg_name (i := 1) (by exact sc_text_of.nd) (by rfl) (by first | exact Or.inl rfl | exact Or.inr rfl))) vts_nil (ve_ix ⟨fun _ => rfl, fun _ => rfl, fun _ => rfl⟩ (fun _ => by exact hu1) (VE.b (ve_glob ⟨fun _ => rfl, fun _ => rfl, fun _ => rfl⟩ g_SIGNS (fun _ => by rfl) (by rfl))) (vb_var 1 (fun _ => pv 1)) (fun _ _ => rfl)) (by decide) (fun _ _ _ _ _ a b c d => pe_lc (own := [("cell", 1)]) (by rfl) sc_text_of.nd a (blkOk_by (own := [("cell", 1)]) (N := ["run", "cell"]) (sc := defScope s_text_of) (by decide +kernel)) b c d))))))))
abbrev s_stands : Stmt := topS 18
theorem sc_stands : FnScope ["whole", "sought", "start", "many"] ["whole", "sought", "start", "many"] (defScope s_stands) := ⟨rfl, rfl, rfl, by decide +kernel, rfl, by decide +kernel, by decide +kernel⟩
theorem bd_stands {K : PySem.W.Frag} {f : Addr} {fd : FuncData} (F : Fun K "stands" "stands" s_stands f fd) : Binds K fd ["whole", "sought", "start", "many"] [] := F.binds (fun _ _ _ _ _ _ us hl => match us, hl with | [_, _, _, _], _ => rfl)
def b_stands : ST :=
    (Sv.ret (Ev.andv (Ev.o2 (gB fun i j => decide (i ≤ j)) (Ev.o2 gAdd (Ev.var 2) (Ev.var 3)) (Ev.u1 lenD (Ev.var 1))) (Ev.o2 gIn (Ev.sl (Ev.var 1) (Ev.part (Ev.var 2)) (Ev.part (Ev.o2 gAdd (Ev.var 2) (Ev.var 3)))) (Ev.var 0))))
def f_stands := runF false false false 4 b_stands
theorem ok_stands {P : Program} {w : World} {K : PySem.W.Frag} {mg : Str → Option Value} {base : Heap} {Ts : List Addr} {Tq : List (Addr × Str)} {fv : Nat → V} (T : Bi mg) {a : Addr} {fd : FuncData} (D0 : DefAt K mg "stands" s_stands a fd)
    : ∀ (base' : Heap) (lm : Lam), BX base base' → FnOk P w K mg base' CX0 2 a fd ["whole", "sought", "start", "many"] (spF (GG K w mg Ts Tq fv lm) false false 4 f_stands) := by
  intro base' lm hb0
  refine okF D0.F sc_stands rfl (by decide) (fun cdv A outer s H E U dd hr => ?_)
  have hu65 := room65 hr
  have hu64 := room64 hr
  have hu1 := room1 hr
  have hu0 := room0 hr
  exact (vss_one (vs_ret (ve_and ⟨fun _ => rfl, fun _ => rfl, fun _ => rfl⟩ (ve_le (VE.b (ve_add ⟨fun _ => rfl, fun _ => rfl, fun _ => rfl⟩ (vb_var 2 (fun _ => pv 2)) (vb_var 3 (fun _ => pv 3)))) (VE.b (ve_cl1 (fun _ _ p => pe_callB call_lenU (by rfl) T.m_len (by decide +kernel) (pa_cons p pa_nil)) d_len (vb_var 1 (fun _ => pv 1))))) (ve_one (ve_in ⟨fun _ => rfl, fun _ => rfl, fun _ => rfl⟩ (fun _ => by exact hu65) (VE.b (ve_sl (vb_var 1 (fun _ => pv 1)) (vo_some (vb_var 2 (fun _ => pv 2))) (vo_some (VE.b (ve_add ⟨fun _ => rfl, fun _ => rfl, fun _ => rfl⟩ (vb_var 2 (fun _ => pv 2)) (vb_var 3 (fun _ => pv 3))))) (fun _ _ _ _ pa pl ph => pe_slice sl_U pa pl ph))) (vb_var 0 (fun _ => pv 0)) (by rfl))))))
abbrev s_longest : Stmt := topS 17
theorem sc_longest : FnScope ["whole", "sought", "start", "good", "more"] ["whole", "sought", "start"] (defScope s_longest) := ⟨rfl, rfl, rfl, by decide +kernel, rfl, by decide +kernel, by decide +kernel⟩
theorem bd_longest {K : PySem.W.Frag} {f : Addr} {fd : FuncData} (F : Fun K "longest" "longest" s_longest f fd) : Binds K fd ["whole", "sought", "start"] [] := F.binds (fun _ _ _ _ _ _ us hl => match us, hl with | [_, _, _], _ => rfl)
def t_longest_1 : EB :=
    (Ev.tb (Ev.o2 (gB fun i j => decide (j < i)) (Ev.var 4) (Ev.c (.int 1))))
def w_longest_2 : ST :=
    (Sv.seq (Sv.set 4 (Ev.o2 (gI gDiv) (Ev.var 4) (Ev.c (.int 2))))
    (Sv.ite (Ev.tt (Ev.call0 4 f_stands (Ev.cons (Ev.dat 0) (Ev.cons (Ev.dat 1) (Ev.cons (Ev.dat 2) (Ev.cons (Ev.o2 gAdd (Ev.var 3) (Ev.var 4)) Ev.nil)))))) (Sv.aug 3 (gI fun i j => some (.int (i + j))) (Ev.var 4)) Sv.skip))
def t_longest_3 : EB :=
    (Ev.tt (Ev.call0 4 f_stands (Ev.cons (Ev.dat 0) (Ev.cons (Ev.dat 1) (Ev.cons (Ev.dat 2) (Ev.cons (Ev.o2 gAdd (Ev.var 3) (Ev.var 4)) Ev.nil))))))
def w_longest_4 : ST :=
    (Sv.seq (Sv.aug 3 (gI fun i j => some (.int (i + j))) (Ev.var 4))
    (Sv.set 4 (Ev.o2 (gI gMul) (Ev.c (.int 2)) (Ev.var 4))))
noncomputable def b_longest : ST :=
    (Sv.seq (Sv.set 3 (Ev.c (.int 0)))
    (Sv.seq (Sv.set 4 (Ev.c (.int 1)))
    (Sv.seq (Sv.while_ t_longest_3 w_longest_4)
    (Sv.seq (Sv.while_ t_longest_1 w_longest_2)
    (Sv.ret (Ev.dat 3))))))
noncomputable def f_longest := runF false false false 5 b_longest
theorem ok_longest {P : Program} {w : World} {K : PySem.W.Frag} {mg : Str → Option Value} {base : Heap} {Ts : List Addr} {Tq : List (Addr × Str)} {fv : Nat → V} (T : Bi mg) {a : Addr} {fd : FuncData} (D0 : DefAt K mg "longest" s_longest a fd)
    {a_stands : Addr} {d_stands : FuncData} (D_stands : DefAt K mg "stands" s_stands a_stands d_stands)
    (G_stands : ∀ (b : Heap) (lm : Lam), BX base b → FnOk P w K mg b CX0 2 a_stands d_stands ["whole", "sought", "start", "many"] (spF (GG K w mg Ts Tq fv lm) false false 4 f_stands))
    : ∀ (base' : Heap) (lm : Lam), BX base base' → FnOk P w K mg base' CX0 3 a fd ["whole", "sought", "start"] (spF (GG K w mg Ts Tq fv lm) false false 3 f_longest) := by
  intro base' lm hb0
  have g_stands := G_stands _ lm hb0
  refine okF D0.F sc_longest rfl (by decide) (fun cdv A outer s H E U dd hr => ?_)
  have hu65 := room65 hr
  have hu64 := room64 hr
  have hu1 := room1 hr
  have hu0 := room0 hr
  exact (vss_cons (vs_set (i := 3) (x := "") (pos' := ⟨0, 0, 0, 0⟩) (fun _ _ p => ps_set (i := 3) sc_longest.nd rfl (by first | exact Or.inl rfl | exact Or.inr rfl) p) ve_int)
      (vss_cons (vs_set (i := 4) (x := "") (pos' := ⟨0, 0, 0, 0⟩) (fun _ _ p => ps_set (i := 4) sc_longest.nd rfl (by first | exact Or.inl rfl | exact Or.inr rfl) p) ve_int)
      (vss_cons (vs_while (vt_truth ⟨fun _ => rfl, fun _ => rfl, fun _ => rfl⟩ (VE.b (ve_call0 (va_cons (ve_var 0 (fun _ => pv 0)) (va_cons (ve_var 1 (fun _ => pv 1)) (va_cons (ve_var 2 (fun _ => pv 2)) (va_cons (ve_add ⟨fun _ => rfl, fun _ => rfl, fun _ => rfl⟩ (vb_var 3 (fun _ => pv 3)) (vb_var 4 (fun _ => pv 4))) va_nil)))) (fun j_ _ p => pe_call g_stands (hr.mono (by decide)) (by rfl) D_stands.g D_stands.F.kp (bd_stands D_stands.F) .nil pass0 p)))) (vss_cons (vs_aug (i := 3) (op := .Add) d_add (vb_var 4 (fun _ => pv 4)) (fun _ _ p => ps_aug (i := 3) sc_longest.nd rfl (by first | exact Or.inl rfl | exact Or.inr rfl) p ip_add))
      (vss_one (vs_set (i := 4) (x := "") (pos' := ⟨0, 0, 0, 0⟩) (fun _ _ p => ps_set (i := 4) sc_longest.nd rfl (by first | exact Or.inl rfl | exact Or.inr rfl) p) (ve_mul (VE.b ve_int) (vb_var 4 (fun _ => pv 4)))))) (fun _ _ _ p q => ps_while PassesOwn.never p q))
      (vss_cons (vs_while (vt_gt (vb_var 4 (fun _ => pv 4)) (VE.b ve_int)) (vss_cons (vs_set (i := 4) (x := "") (pos' := ⟨0, 0, 0, 0⟩) (fun _ _ p => ps_set (i := 4) sc_longest.nd rfl (by first | exact Or.inl rfl | exact Or.inr rfl) p) (ve_div (vb_var 4 (fun _ => pv 4)) (VE.b ve_int)))
      (vss_one (vs_if (vt_truth ⟨fun _ => rfl, fun _ => rfl, fun _ => rfl⟩ (VE.b (ve_call0 (va_cons (ve_var 0 (fun _ => pv 0)) (va_cons (ve_var 1 (fun _ => pv 1)) (va_cons (ve_var 2 (fun _ => pv 2)) (va_cons (ve_add ⟨fun _ => rfl, fun _ => rfl, fun _ => rfl⟩ (vb_var 3 (fun _ => pv 3)) (vb_var 4 (fun _ => pv 4))) va_nil)))) (fun j_ _ p => pe_call g_stands (hr.mono (by decide)) (by rfl) D_stands.g D_stands.F.kp (bd_stands D_stands.F) .nil pass0 p)))) (vss_one (vs_aug (i := 3) (op := .Add) d_add (vb_var 4 (fun _ => pv 4)) (fun _ _ p => ps_aug (i := 3) sc_longest.nd rfl (by first | exact Or.inl rfl | exact Or.inr rfl) p ip_add))) vss_nil))) (fun _ _ _ p q => ps_while PassesOwn.never p q))
      (vss_one (vs_ret (ve_var 3 (fun _ => pv 3))))))))
abbrev s_parts_of : Stmt := topS 16
theorem sc_parts_of : FnScope ["whole", "sought", "found", "start", "end"] ["whole", "sought"] (defScope s_parts_of) := ⟨rfl, rfl, rfl, by decide +kernel, rfl, by decide +kernel, by decide +kernel⟩
theorem bd_parts_of {K : PySem.W.Frag} {f : Addr} {fd : FuncData} (F : Fun K "parts_of" "parts_of" s_parts_of f fd) : Binds K fd ["whole", "sought"] [] := F.binds (fun _ _ _ _ _ _ us hl => match us, hl with | [_, _], _ => rfl)
noncomputable def t_parts_of_1 : EB :=
    (Ev.tb (Ev.o2 gLt (Ev.var 3) (Ev.u1 lenD (Ev.var 1))))
noncomputable def w_parts_of_2 : ST :=
    (Sv.seq (Sv.set 4 (Ev.o2 gAdd (Ev.var 3) (Ev.o2 (gI gMax2) (Ev.c (.int 1)) (Ev.call0 3 f_longest (Ev.cons (Ev.dat 0) (Ev.cons (Ev.dat 1) (Ev.cons (Ev.dat 3) Ev.nil)))))))
    (Sv.seq (Sv.append 2 (Ev.tup (Ev.cons (Ev.dat 3) (Ev.cons (Ev.dat 4) Ev.nil))))
    (Sv.set 3 (Ev.dat 4))))
noncomputable def b_parts_of : ST :=
    (Sv.seq (Sv.setO 2 (Ev.lst Ev.nil))
    (Sv.seq (Sv.set 3 (Ev.c (.int 0)))
    (Sv.seq (Sv.while_ t_parts_of_1 w_parts_of_2)
    (Sv.retO 2))))
noncomputable def f_parts_of := runF false false true 5 b_parts_of
theorem ok_parts_of {P : Program} {w : World} {K : PySem.W.Frag} {mg : Str → Option Value} {base : Heap} {Ts : List Addr} {Tq : List (Addr × Str)} {fv : Nat → V} (T : Bi mg) {a : Addr} {fd : FuncData} (D0 : DefAt K mg "parts_of" s_parts_of a fd)
    {a_longest : Addr} {d_longest : FuncData} (D_longest : DefAt K mg "longest" s_longest a_longest d_longest)
    (G_longest : ∀ (b : Heap) (lm : Lam), BX base b → FnOk P w K mg b CX0 3 a_longest d_longest ["whole", "sought", "start"] (spF (GG K w mg Ts Tq fv lm) false false 3 f_longest))
    : ∀ (base' : Heap) (lm : Lam), BX base base' → FnOk P w K mg base' CX0 4 a fd ["whole", "sought"] (spF (GG K w mg Ts Tq fv lm) false true 2 f_parts_of) := by
  intro base' lm hb0
  have g_longest := G_longest _ lm hb0
  refine okF D0.F sc_parts_of rfl (by decide) (fun cdv A outer s H E U dd hr => ?_)
  have hu65 := room65 hr
  have hu64 := room64 hr
  have hu1 := room1 hr
  have hu0 := room0 hr
  exact (vss_cons (vs_setO (i := 2) (fun _ _ p => ps_set (i := 2) sc_parts_of.nd rfl (by first | exact Or.inl rfl | exact Or.inr rfl) p) (vf_lst va_nil))
      (vss_cons (vs_set (i := 3) (x := "") (pos' := ⟨0, 0, 0, 0⟩) (fun _ _ p => ps_set (i := 3) sc_parts_of.nd rfl (by first | exact Or.inl rfl | exact Or.inr rfl) p) ve_int)
      (vss_cons (vs_while (vt_lt ⟨fun _ => rfl, fun _ => rfl, fun _ => rfl⟩ (fun _ => by exact hu0) (vb_var 3 (fun _ => pv 3)) (VE.b (ve_cl1 (fun _ _ p => pe_callB call_lenU (by rfl) T.m_len (by decide +kernel) (pa_cons p pa_nil)) d_len (vb_var 1 (fun _ => pv 1))))) (vss_cons (vs_set (i := 4) (x := "") (pos' := ⟨0, 0, 0, 0⟩) (fun _ _ p => ps_set (i := 4) sc_parts_of.nd rfl (by first | exact Or.inl rfl | exact Or.inr rfl) p) (ve_add ⟨fun _ => rfl, fun _ => rfl, fun _ => rfl⟩ (vb_var 3 (fun _ => pv 3)) (VE.b (ve_cl2 (fun _ _ _ p q => pe_callB (call_max2 rfl) (by rfl) T.m_max (by decide +kernel) (pa_cons p (pa_cons q pa_nil))) d_max2 (VE.b ve_int) (VE.b (ve_call0 (va_cons (ve_var 0 (fun _ => pv 0)) (va_cons (ve_var 1 (fun _ => pv 1)) (va_cons (ve_var 3 (fun _ => pv 3)) va_nil))) (fun j_ _ p => pe_call g_longest (hr.mono (by decide)) (by rfl) D_longest.g D_longest.F.kp (bd_longest D_longest.F) .nil pass0 p)))))))
      (vss_cons (vs_append (i := 2) (ve_tup (va_cons (ve_var 3 (fun _ => pv 3)) (va_cons (ve_var 4 (fun _ => pv 4)) va_nil))) (fun _ _ p => ps_expr (pe_bm PySem.F.plainAttrs_list PySem.F.slot_list_append PySem.F.type_list_append mt_append (pv 2) (pa_cons p pa_nil))))
      (vss_one (vs_set (i := 3) (x := "") (pos' := ⟨0, 0, 0, 0⟩) (fun _ _ p => ps_set (i := 3) sc_parts_of.nd rfl (by first | exact Or.inl rfl | exact Or.inr rfl) p) (ve_var 4 (fun _ => pv 4)))))) (fun _ _ _ p q => ps_while PassesOwn.never p q))
      (vss_one (vs_retO (fun _ => pv 2))))))
abbrev s_patch : Stmt := topS 15
theorem sc_patch : FnScope ["old", "new", "whole", "sought", "steps", "start", "end", "at"] ["old", "new"] (defScope s_patch) := ⟨rfl, rfl, rfl, by decide +kernel, rfl, by decide +kernel, by decide +kernel⟩
theorem bd_patch {K : PySem.W.Frag} {f : Addr} {fd : FuncData} (F : Fun K "patch" "patch" s_patch f fd) : Binds K fd ["old", "new"] [] := F.binds (fun _ _ _ _ _ _ us hl => match us, hl with | [_, _], _ => rfl)
noncomputable def w_patch_1 : ST :=
    (Sv.seq (Sv.set 7 (Ev.sm1 gFindS (Ev.var 2) (Ev.sl (Ev.var 3) (Ev.part (Ev.var 5)) (Ev.part (Ev.var 6)))))
    (Sv.append 4 (Ev.ifx (Ev.tb (Ev.o2 gLt (Ev.var 7) (Ev.c (.int 0)))) (Ev.tup (Ev.cons (Ev.c (.str "cell")) (Ev.cons (Ev.o2 gIx (Ev.var 1) (Ev.var 5)) Ev.nil))) (Ev.tup (Ev.cons (Ev.c (.str "copy")) (Ev.cons (Ev.dat 7) (Ev.cons (Ev.o2 (gI fun i j => some (.int (i - j))) (Ev.var 6) (Ev.var 5)) Ev.nil)))))))
noncomputable def b_patch : ST :=
    (Sv.seq (Sv.par 2 3 (Ev.callE 1 f_text_of (Ev.cons (Ev.dat 0) Ev.nil)) (Ev.callE 1 f_text_of (Ev.cons (Ev.dat 1) Ev.nil)))
    (Sv.seq (Sv.setO 4 (Ev.lst Ev.nil))
    (Sv.seq (Sv.for_ (Iv.items (Ev.call0 2 f_parts_of (Ev.cons (Ev.dat 2) (Ev.cons (Ev.dat 3) Ev.nil)))) (Gv.tup 2 (Gv.cons (Gv.name 5) (Gv.cons (Gv.name 6) Gv.nil))) w_patch_1)
    (Sv.ret (Ev.u1 gTuple (Ev.var 4))))))
noncomputable def f_patch := runF true false false 8 b_patch
theorem ok_patch {P : Program} {w : World} {K : PySem.W.Frag} {mg : Str → Option Value} {base : Heap} {Ts : List Addr} {Tq : List (Addr × Str)} {fv : Nat → V} (T : Bi mg) {a : Addr} {fd : FuncData} (D0 : DefAt K mg "patch" s_patch a fd)
    {a_parts_of : Addr} {d_parts_of : FuncData} (D_parts_of : DefAt K mg "parts_of" s_parts_of a_parts_of d_parts_of)
    (G_parts_of : ∀ (b : Heap) (lm : Lam), BX base b → FnOk P w K mg b CX0 4 a_parts_of d_parts_of ["whole", "sought"] (spF (GG K w mg Ts Tq fv lm) false true 2 f_parts_of))
    {a_text_of : Addr} {d_text_of : FuncData} (D_text_of : DefAt K mg "text_of" s_text_of a_text_of d_text_of)
    (G_text_of : ∀ (b : Heap) (lm : Lam), BX base b → FnOk P w K mg b (L2.CX P w) 9 a_text_of d_text_of ["run"] (spF (GG K w mg Ts Tq fv lm) false false 1 f_text_of))
    : ∀ (base' : Heap) (lm : Lam), BX base base' → FnOk P w K mg base' (L2.CX P w) 10 a fd ["old", "new"] (spF (GG K w mg Ts Tq fv lm) false false 2 f_patch) := by
  intro base' lm hb0
  have g_parts_of := G_parts_of _ lm hb0
  have g_text_of := G_text_of _ lm hb0
  refine okFx D0.F sc_patch rfl (by decide) (fun cdv A outer s H E U dd hr => ?_)
  have hu65 := room65 hr
  have hu64 := room64 hr
  have hu1 := room1 hr
  have hu0 := room0 hr
  exact (vss_cons (vs_par (i := 2) (j := 3) (fun _ _ _ p q => ps_par (i := 2) (j := 3) rfl sc_patch.nd rfl rfl (by decide) rfl rfl (pa_cons p (pa_cons q pa_nil)) (by rfl)) (ve_callE (va_cons (ve_var 0 (fun _ => pv 0)) va_nil) (fun j_ _ p => pe_call g_text_of (hr.mono (by decide)) (by rfl) D_text_of.g D_text_of.F.kp (bd_text_of D_text_of.F) .nil (passes_call (takes_of rfl rfl rfl rfl) (fun _ _ _ _ h => h)) p)) (ve_callE (va_cons (ve_var 1 (fun _ => pv 1)) va_nil) (fun j_ _ p => pe_call g_text_of (hr.mono (by decide)) (by rfl) D_text_of.g D_text_of.F.kp (bd_text_of D_text_of.F) .nil (passes_call (takes_of rfl rfl rfl rfl) (fun _ _ _ _ h => h)) p)))
      (vss_cons (vs_setO (i := 4) (fun _ _ p => ps_set (i := 4) sc_patch.nd rfl (by first | exact Or.inl rfl | exact Or.inr rfl) p) (vf_lst va_nil))
      (vss_cons (vs_for (vi_items ⟨fun _ => rfl, fun _ => rfl, fun _ => rfl⟩ (VF.ve (vf_call0 (va_cons (ve_var 2 (fun _ => pv 2)) (va_cons (ve_var 3 (fun _ => pv 3)) va_nil)) (fun j_ _ p => pe_call g_parts_of (hr.mono (by decide)) (by rfl) D_parts_of.g D_parts_of.F.kp (bd_parts_of D_parts_of.F) .nil pass0 p)))) (vg_tup (n := 2) (fun _ _ p => pg_tup (by rfl) p) (vgs_cons (vg_name (i := 5) (fun _ => pg_name (i := 5) (by exact sc_patch.nd) (by rfl) (by first | exact Or.inl rfl | exact Or.inr rfl))) (vgs_cons (vg_name (i := 6) (fun _ => pg_name (i := 6) (by exact sc_patch.nd) (by rfl) (by first | exact Or.inl rfl | exact Or.inr rfl))) vgs_nil))) (vss_cons (vs_set (i := 7) (x := "") (pos' := ⟨0, 0, 0, 0⟩) (fun _ _ p => ps_set (i := 7) sc_patch.nd rfl (by first | exact Or.inl rfl | exact Or.inr rfl) p) (ve_sm1 d_findS (fun _ _ _ p q => pe_bm PySem.F.plainAttrs_str PySem.F.slot_str_find PySem.F.type_str_find mt_find p (pa_cons q pa_nil)) (vb_var 2 (fun _ => pv 2)) (VE.b (ve_sl (vb_var 3 (fun _ => pv 3)) (vo_some (vb_var 5 (fun _ => pv 5))) (vo_some (vb_var 6 (fun _ => pv 6))) (fun _ _ _ _ pa pl ph => pe_slice sl_U pa pl ph)))))
      (vss_one (vs_append (i := 4) (ve_ifx (vt_lt ⟨fun _ => rfl, fun _ => rfl, fun _ => rfl⟩ (fun _ => by exact hu0) (vb_var 7 (fun _ => pv 7)) (VE.b ve_int)) (ve_tup (va_cons ve_str (va_cons (ve_ix ⟨fun _ => rfl, fun _ => rfl, fun _ => rfl⟩ (fun _ => by exact hu1) (vb_var 1 (fun _ => pv 1)) (vb_var 5 (fun _ => pv 5)) (fun _ _ => rfl)) va_nil))) (ve_tup (va_cons ve_str (va_cons (ve_var 7 (fun _ => pv 7)) (va_cons (ve_sub (vb_var 6 (fun _ => pv 6)) (vb_var 5 (fun _ => pv 5))) va_nil))))) (fun _ _ p => ps_expr (pe_bm PySem.F.plainAttrs_list PySem.F.slot_list_append PySem.F.type_list_append mt_append (pv 4) (pa_cons p pa_nil)))))) (fun _ _ _ _ p q r => ps_for (passes_of rfl) rfl p q r))
      (vss_one (vs_ret (ve_cl1 (fun _ _ p => pe_callTy call_tuple_of (by rfl) T.m_tuple (by decide +kernel) (pa_cons p pa_nil)) d_tuple (vb_var 4 (fun _ => pv 4))))))))
abbrev s_is_step : Stmt := topS 20
theorem sc_is_step : FnScope ["thing", "many"] ["thing", "many"] (defScope s_is_step) := ⟨rfl, rfl, rfl, by decide +kernel, rfl, by decide +kernel, by decide +kernel⟩
theorem bd_is_step {K : PySem.W.Frag} {f : Addr} {fd : FuncData} (F : Fun K "is_step" "is_step" s_is_step f fd) : Binds K fd ["thing", "many"] [] := F.binds (fun _ _ _ _ _ _ us hl => match us, hl with | [_, _], _ => rfl)
def b_is_step : ST :=
    (Sv.seq (Sv.ite (Ev.tt (Ev.call0 3 f_is_tagged (Ev.cons (Ev.dat 0) (Ev.cons (Ev.c (.str "cell")) (Ev.cons (Ev.c (.int 2)) Ev.nil))))) (Sv.ret (Ev.call0 1 f_is_cell (Ev.cons (Ev.o2 gIx (Ev.var 0) (Ev.c (.int 1))) Ev.nil))) Sv.skip)
    (Sv.seq (Sv.ite (Ev.tnot (Ev.tt (Ev.call0 3 f_is_tagged (Ev.cons (Ev.dat 0) (Ev.cons (Ev.c (.str "copy")) (Ev.cons (Ev.c (.int 3)) Ev.nil)))))) (Sv.ret (Ev.c (.bool false))) Sv.skip)
    (Sv.ret (Ev.andv (Ev.call0 3 f_within (Ev.cons (Ev.o2 gIx (Ev.var 0) (Ev.c (.int 1))) (Ev.cons (Ev.c (.int 0)) (Ev.cons (Ev.dat 1) Ev.nil)))) (Ev.call0 3 f_within (Ev.cons (Ev.o2 gIx (Ev.var 0) (Ev.c (.int 2))) (Ev.cons (Ev.c (.int 1)) (Ev.cons (Ev.o2 (gI fun i j => some (.int (i - j))) (Ev.var 1) (Ev.o2 gIx (Ev.var 0) (Ev.c (.int 1)))) Ev.nil))))))))
def f_is_step := runF false false false 2 b_is_step
theorem ok_is_step {P : Program} {w : World} {K : PySem.W.Frag} {mg : Str → Option Value} {base : Heap} {Ts : List Addr} {Tq : List (Addr × Str)} {fv : Nat → V} (T : Bi mg) {a : Addr} {fd : FuncData} (D0 : DefAt K mg "is_step" s_is_step a fd)
    {a_within : Addr} {d_within : FuncData} (D_within : DefAt K mg "within" s_within a_within d_within)
    (G_within : ∀ (b : Heap) (lm : Lam), BX base b → FnOk P w K mg b CX0 3 a_within d_within ["thing", "low", "high"] (spF (GG K w mg Ts Tq fv lm) false false 3 f_within))
    {a_is_tagged : Addr} {d_is_tagged : FuncData} (D_is_tagged : DefAt K mg "is_tagged" s_is_tagged a_is_tagged d_is_tagged)
    (G_is_tagged : ∀ (b : Heap) (lm : Lam), BX base b → FnOk P w K mg b CX0 3 a_is_tagged d_is_tagged ["thing", "word", "many"] (spF (GG K w mg Ts Tq fv lm) false false 3 f_is_tagged))
    {a_is_cell : Addr} {d_is_cell : FuncData} (D_is_cell : DefAt K mg "is_cell" s_is_cell a_is_cell d_is_cell)
    (G_is_cell : ∀ (b : Heap) (lm : Lam), BX base b → FnOk P w K mg b CX0 4 a_is_cell d_is_cell ["thing"] (spF (GG K w mg Ts Tq fv lm) false false 1 f_is_cell))
    : ∀ (base' : Heap) (lm : Lam), BX base base' → FnOk P w K mg base' CX0 5 a fd ["thing", "many"] (spF (GG K w mg Ts Tq fv lm) false false 2 f_is_step) := by
  intro base' lm hb0
  have g_within := G_within _ lm hb0
  have g_is_tagged := G_is_tagged _ lm hb0
  have g_is_cell := G_is_cell _ lm hb0
  refine okF D0.F sc_is_step rfl (by decide) (fun cdv A outer s H E U dd hr => ?_)
  have hu65 := room65 hr
  have hu64 := room64 hr
  have hu1 := room1 hr
  have hu0 := room0 hr
  exact (vss_cons (vs_if (vt_truth ⟨fun _ => rfl, fun _ => rfl, fun _ => rfl⟩ (VE.b (ve_call0 (va_cons (ve_var 0 (fun _ => pv 0)) (va_cons ve_str (va_cons ve_int va_nil))) (fun j_ _ p => pe_call g_is_tagged (hr.mono (by decide)) (by rfl) D_is_tagged.g D_is_tagged.F.kp (bd_is_tagged D_is_tagged.F) .nil pass0 p)))) (vss_one (vs_ret (ve_call0 (va_cons (ve_ix ⟨fun _ => rfl, fun _ => rfl, fun _ => rfl⟩ (fun _ => by exact hu1) (vb_var 0 (fun _ => pv 0)) (VE.b ve_int) (fun _ _ => rfl)) va_nil) (fun j_ _ p => pe_call g_is_cell (hr.mono (by decide)) (by rfl) D_is_cell.g D_is_cell.F.kp (bd_is_cell D_is_cell.F) .nil pass0 p)))) vss_nil)
      (vss_cons (vs_if (vt_not (vt_truth ⟨fun _ => rfl, fun _ => rfl, fun _ => rfl⟩ (VE.b (ve_call0 (va_cons (ve_var 0 (fun _ => pv 0)) (va_cons ve_str (va_cons ve_int va_nil))) (fun j_ _ p => pe_call g_is_tagged (hr.mono (by decide)) (by rfl) D_is_tagged.g D_is_tagged.F.kp (bd_is_tagged D_is_tagged.F) .nil pass0 p))))) (vss_one (vs_ret ve_bl)) vss_nil)
      (vss_one (vs_ret (ve_and ⟨fun _ => rfl, fun _ => rfl, fun _ => rfl⟩ (ve_call0 (va_cons (ve_ix ⟨fun _ => rfl, fun _ => rfl, fun _ => rfl⟩ (fun _ => by exact hu1) (vb_var 0 (fun _ => pv 0)) (VE.b ve_int) (fun _ _ => rfl)) (va_cons ve_int (va_cons (ve_var 1 (fun _ => pv 1)) va_nil))) (fun j_ _ p => pe_call g_within (hr.mono (by decide)) (by rfl) D_within.g D_within.F.kp (bd_within D_within.F) .nil pass0 p)) (ve_one (ve_call0 (va_cons (ve_ix ⟨fun _ => rfl, fun _ => rfl, fun _ => rfl⟩ (fun _ => by exact hu1) (vb_var 0 (fun _ => pv 0)) (VE.b ve_int) (fun _ _ => rfl)) (va_cons ve_int (va_cons (ve_sub (vb_var 1 (fun _ => pv 1)) (VE.b (ve_ix ⟨fun _ => rfl, fun _ => rfl, fun _ => rfl⟩ (fun _ => by exact hu1) (vb_var 0 (fun _ => pv 0)) (VE.b ve_int) (fun _ _ => rfl)))) va_nil))) (fun j_ _ p => pe_call g_within (hr.mono (by decide)) (by rfl) D_within.g D_within.F.kp (bd_within D_within.F) .nil pass0 p))))))))
abbrev s_is_tuple_of : Stmt := topS 11
theorem sc_is_tuple_of : FnScope ["thing", "is_part"] ["thing", "is_part"] (defScope s_is_tuple_of) := ⟨rfl, rfl, rfl, by decide +kernel, rfl, by decide +kernel, by decide +kernel⟩
theorem bd_is_tuple_of {K : PySem.W.Frag} {f : Addr} {fd : FuncData} (F : Fun K "is_tuple_of" "is_tuple_of" s_is_tuple_of f fd) : Binds K fd ["thing", "is_part"] [] := F.binds (fun _ _ _ _ _ _ us hl => match us, hl with | [_, _], _ => rfl)
def e_is_tuple_of_1L (F : List PyData → List PyData → Dw → R PyData) : EX :=
    (Ev.callC 1 1 F (Ev.cons (Ev.dat 2) Ev.nil))
def b_is_tuple_of__L (F : List PyData → List PyData → Dw → R PyData) : ST :=
    (Sv.ret (Ev.andv (Ev.u1 (isiD "tuple") (Ev.var 0)) (Ev.allG false 1 [2] (Iv.items (Ev.dat 0)) (Gv.name 2) (e_is_tuple_of_1L F))))
def f_is_tuple_of__L (F : List PyData → List PyData → Dw → R PyData) : List PyData → List PyData → Dw → R PyData := runC 2 (b_is_tuple_of__L F)
theorem ok_is_tuple_of__L6 {P : Program} {w : World} {K : PySem.W.Frag} {mg : Str → Option Value} {base : Heap} {Ts : List Addr} {Tq : List (Addr × Str)} {fv : Nat → V} {lm : Lam} (T : Bi mg) {a : Addr} {fd : FuncData} (D0 : DefAt K mg "is_tuple_of" s_is_tuple_of a fd) {F : List PyData → List PyData → Dw → R PyData}
    (GL : LmOk P w K mg base 6 lm 1 (spL (GG K w mg Ts Tq fv lm) 1 F))
    {c0 P0 : Addr} (hc0 : fd.code = .ref c0) (TB0 : GxR.TabB base mg c0 P0) (hP0 : P0 ∈ Ts) (hq0 : ∀ p ∈ Tq, p.1 ≠ P0)
    : FnOk P w K mg base CX0 10 a fd ["thing", "is_part"] (spC (GG K w mg Ts Tq fv lm) 1 (f_is_tuple_of__L F)) := by
  refine okCl D0.F hc0 sc_is_tuple_of rfl (by decide) (fun A outer s H E U hr => ?_)
  have hu65 := room65 hr
  have hu64 := room64 hr
  have hu1 := room1 hr
  have hu0 := room0 hr
  exact (vss_one (vs_ret (ve_and ⟨fun _ => rfl, fun _ => rfl, fun _ => rfl⟩ (ve_isi (T := "tuple") (fb := fun _ D => .stuck) ⟨fun _ => rfl, fun _ => rfl, fun _ => rfl⟩ (vb_var 0 (fun _ => pv 0)) (fun _ _ p => pe_callB call_isi (by rfl) T.m_isinstance (by decide +kernel) (pa_cons p (pa_cons (pe_bltn (v := .ty "tuple") (by rfl) T.m_tuple (by decide +kernel) rfl) pa_nil)))) (ve_one (ve_all (own := ["part"]) (n := 1) (ks := [2]) hP0 hq0 (vi_items ⟨fun _ => rfl, fun _ => rfl, fun _ => rfl⟩ (ve_var 0 (fun _ => pv 0))) (vg_name (i := 2) (fun _ => pg_name (i := 2) (by exact (show (["thing", "is_part", "part"] : List Str).Nodup by decide)) (by rfl) (by first | exact Or.inl rfl | exact Or.inr rfl))) (ve_callC (i := 1) (n := 1) (va_cons (ve_var 2 (fun _ => pv 2)) va_nil) (fun j_ _ p => pe_callLm (i := 1) GL ((hr.in1.in1.deeper _).mono (by decide)) (by rfl) (by first | exact .inl rfl | exact .inr (.inl rfl) | exact .inr (.inr rfl)) p)) (fun _ _ _ _ a b c => pe_allG (own := ["part"]) hr (by rfl) T.m_all (by decide +kernel) rfl TB0 rfl (genOk_by (by rfl)) a b c))))))
abbrev s_patched : Stmt := topS 19
theorem sc_patched : FnScope ["old", "patch", "found", "step"] ["old", "patch"] (defScope s_patched) := ⟨rfl, rfl, rfl, by decide +kernel, rfl, by decide +kernel, by decide +kernel⟩
theorem bd_patched {K : PySem.W.Frag} {f : Addr} {fd : FuncData} (F : Fun K "patched" "patched" s_patched f fd) : Binds K fd ["old", "patch"] [] := F.binds (fun _ _ _ _ _ _ us hl => match us, hl with | [_, _], _ => rfl)
def q_patched : Str := (envOfC "patched" (defScope s_patched) 0 0 .none).qual ++ "<lambda>"
def w_patched_1 : ST :=
    (Sv.ite (Ev.tb (Ev.o2 gEq (Ev.o2 gIx (Ev.var 3) (Ev.c (.int 0))) (Ev.c (.str "cell")))) (Sv.append 2 (Ev.o2 gIx (Ev.var 3) (Ev.c (.int 1)))) (Sv.extend 2 (Ev.sl (Ev.var 0) (Ev.part (Ev.o2 gIx (Ev.var 3) (Ev.c (.int 1)))) (Ev.part (Ev.o2 gAdd (Ev.o2 gIx (Ev.var 3) (Ev.c (.int 1))) (Ev.o2 gIx (Ev.var 3) (Ev.c (.int 2))))))))
def fL_patched_1 : List PyData → List PyData → Dw → R PyData := runL 2
    (Ev.call0 2 f_is_step (Ev.cons (Ev.dat 0) (Ev.cons (Ev.u1 lenD (Ev.var 1)) Ev.nil)))
def b_patched : ST :=
    (Sv.seq (Sv.ite (Ev.tnot (Ev.tt (Ev.call0 1 f_are_cells (Ev.cons (Ev.dat 0) Ev.nil)))) (Sv.raise "BadRun") Sv.skip)
    (Sv.seq (Sv.ite (Ev.tnot (Ev.tt (Ev.lamC [0] 1 (f_is_tuple_of__L fL_patched_1) (Ev.cons (Ev.dat 1) Ev.nil)))) (Sv.raise "BadPatch") Sv.skip)
    (Sv.seq (Sv.setO 2 (Ev.lst Ev.nil))
    (Sv.seq (Sv.for_ (Iv.items (Ev.dat 1)) (Gv.name 3) w_patched_1)
    (Sv.ret (Ev.u1 gTuple (Ev.var 2)))))))
def f_patched := runF true false false 4 b_patched
theorem ok_patched {P : Program} {w : World} {K : PySem.W.Frag} {mg : Str → Option Value} {base : Heap} {Ts : List Addr} {Tq : List (Addr × Str)} {fv : Nat → V} (T : Bi mg) {a : Addr} {fd : FuncData} (D0 : DefAt K mg "patched" s_patched a fd)
    {a_are_cells : Addr} {d_are_cells : FuncData} (D_are_cells : DefAt K mg "are_cells" s_are_cells a_are_cells d_are_cells)
    (G_are_cells : ∀ (b : Heap) (lm : Lam), BX base b → FnOk P w K mg b CX0 8 a_are_cells d_are_cells ["thing"] (spF (GG K w mg Ts Tq fv lm) false false 1 f_are_cells))
    {a_is_step : Addr} {d_is_step : FuncData} (D_is_step : DefAt K mg "is_step" s_is_step a_is_step d_is_step)
    (G_is_step : ∀ (b : Heap) (lm : Lam), BX base b → FnOk P w K mg b CX0 5 a_is_step d_is_step ["thing", "many"] (spF (GG K w mg Ts Tq fv lm) false false 2 f_is_step))
    (e_BadPatch : EcAt K mg "BadPatch" (Nm.adr "BadPatch"))
    (e_BadRun : EcAt K mg "BadRun" (Nm.adr "BadRun"))
    {c0 P0 : Addr} (hc0 : fd.code = .ref c0) (LB0 : LamX.TabB base mg c0 P0) (hPQ : (P0, q_patched) ∈ Tq) (huq : ∀ p ∈ Tq, p.1 = P0 → p.2 = q_patched) (hnT : P0 ∉ Ts)
    {a_is_tuple_of : Addr} {d_is_tuple_of : FuncData} (D_is_tuple_of : DefAt K mg "is_tuple_of" s_is_tuple_of a_is_tuple_of d_is_tuple_of)
    {c_is_tuple_of P_is_tuple_of : Addr} (hc_is_tuple_of : d_is_tuple_of.code = .ref c_is_tuple_of) (TB_is_tuple_of : GxR.TabB base mg c_is_tuple_of P_is_tuple_of) (hP_is_tuple_of : P_is_tuple_of ∈ Ts) (hq_is_tuple_of : ∀ p ∈ Tq, p.1 ≠ P_is_tuple_of)
    : ∀ (base' : Heap) (lm : Lam), BX base base' → FnOk P w K mg base' (L2.CX P w) 11 a fd ["old", "patch"] (spF (GG K w mg Ts Tq fv lm) false false 2 f_patched) := by
  intro base' lm hb0
  have g_are_cells := G_are_cells _ lm hb0
  replace G_is_step := fun b l (h : BX base' b) => G_is_step b l (hb0.trans h)
  replace TB_is_tuple_of := gtab_grown TB_is_tuple_of hb0
  replace LB0 := ltab_grown LB0 hb0
  refine okFCx D0.F hc0 sc_patched rfl (by decide) (fun A outer s H E U dd hr => ?_)
  have hu65 := room65 hr
  have hu64 := room64 hr
  have hu1 := room1 hr
  have hu0 := room0 hr
  exact (vss_cons (vs_if (vt_not (vt_truth ⟨fun _ => rfl, fun _ => rfl, fun _ => rfl⟩ (VE.b (ve_call0 (va_cons (ve_var 0 (fun _ => pv 0)) va_nil) (fun j_ _ p => pe_call g_are_cells (hr.mono (by decide)) (by rfl) D_are_cells.g D_are_cells.F.kp (bd_are_cells D_are_cells.F) .nil pass0 p))))) (vss_one (vs_raise (fun _ => ps_raise rfl (takes_of rfl rfl rfl rfl) (pmk_own PySem.F.excBase_ValueError e_BadRun.exc e_BadRun.g e_BadRun.kp (raises_own e_BadRun.sub e_BadRun.ty) (by rfl))))) vss_nil)
      (vss_cons (vs_if (vt_not (vt_truth ⟨fun _ => rfl, fun _ => rfl, fun _ => rfl⟩ (VE.b (ve_lamC (k := 10) (base := base') (P := P0) (q := q_patched) (fr := ["old"]) (js := [0]) (F := f_is_tuple_of__L fL_patched_1) (fun _ => rfl) (fun _ => rfl) hPQ huq hnT (ve_var 1 (fun _ => pv 1)) (fun _ _ _ hF p0 => pe_callRe hF (hr.mono (by decide)) (by rfl) D_is_tuple_of.g D_is_tuple_of.F.kp (bd_is_tuple_of D_is_tuple_of.F) (fun ok => Caps.made ok (ndef_free (sc := defScope s_patched) (fr := ["old"]) (by decide +kernel)) (ndef_fr (sc := defScope s_patched) (fr := ["old"]) (by decide +kernel)) (by rfl)) (fun _ => rfl) (pa_cons p0 (pa_cons (pe_lm LB0 rfl (by rfl) (ndef_free (sc := defScope s_patched) (fr := ["old"]) (by decide +kernel))) pa_nil))) (fun _ b l hl => by
        have g_is_step := G_is_step b l hl.bx
        obtain ⟨f', c', q', pr', bd', sc', cl', vs'⟩ := l
        obtain ⟨bx, e1, e2, e3, e4, cap⟩ := hl
        dsimp only at e1 e2 e3 e4 cap
        subst e1 e2 e3 e4
        exact ok_is_tuple_of__L6 T D_is_tuple_of (ok_lam (N := ["step", "old"]) (ps := ["step"]) (fr := ["old"]) rfl (by refine nscope_by ?_; dsimp only; decide +kernel) rfl cap (fun _ _ us h => match us, h with | [_], _ => rfl) (fun A outer s H E U hr => by
          have hu65 := room65 hr
          have hu64 := room64 hr
          have hu1 := room1 hr
          have hu0 := room0 hr
          exact (ve_call0 (va_cons (ve_var 0 (fun _ => pv 0)) (va_cons (ve_cl1 (fun _ _ p => pe_callB call_lenU (by rfl) T.m_len (by decide +kernel) (pa_cons p pa_nil)) d_len (vb_var 1 (fun _ => pv 1))) va_nil)) (fun j_ _ p => pe_call g_is_step (hr.mono (by decide)) (by rfl) D_is_step.g D_is_step.F.kp (bd_is_step D_is_step.F) .nil pass0 p))))  hc_is_tuple_of (gtab_grown TB_is_tuple_of bx) hP_is_tuple_of hq_is_tuple_of))))) (vss_one (vs_raise (fun _ => ps_raise rfl (takes_of rfl rfl rfl rfl) (pmk_own PySem.F.excBase_ValueError e_BadPatch.exc e_BadPatch.g e_BadPatch.kp (raises_own e_BadPatch.sub e_BadPatch.ty) (by rfl))))) vss_nil)
      (vss_cons (vs_setO (i := 2) (fun _ _ p => ps_set (i := 2) sc_patched.nd rfl (by first | exact Or.inl rfl | exact Or.inr rfl) p) (vf_lst va_nil))
      (vss_cons (vs_for (vi_items ⟨fun _ => rfl, fun _ => rfl, fun _ => rfl⟩ (ve_var 1 (fun _ => pv 1))) (vg_name (i := 3) (fun _ => pg_name (i := 3) (by exact sc_patched.nd) (by rfl) (by first | exact Or.inl rfl | exact Or.inr rfl))) (vss_one (vs_if (vt_eq ⟨fun _ => rfl, fun _ => rfl, fun _ => rfl⟩ (fun _ => by exact hu64) (VE.b (ve_ix ⟨fun _ => rfl, fun _ => rfl, fun _ => rfl⟩ (fun _ => by exact hu1) (vb_var 3 (fun _ => pv 3)) (VE.b ve_int) (fun _ _ => rfl))) (VE.b ve_str)) (vss_one (vs_append (i := 2) (ve_ix ⟨fun _ => rfl, fun _ => rfl, fun _ => rfl⟩ (fun _ => by exact hu1) (vb_var 3 (fun _ => pv 3)) (VE.b ve_int) (fun _ _ => rfl)) (fun _ _ p => ps_expr (pe_bm PySem.F.plainAttrs_list PySem.F.slot_list_append PySem.F.type_list_append mt_append (pv 2) (pa_cons p pa_nil))))) (vss_one (vs_extend (i := 2) (ve_sl (vb_var 0 (fun _ => pv 0)) (vo_some (VE.b (ve_ix ⟨fun _ => rfl, fun _ => rfl, fun _ => rfl⟩ (fun _ => by exact hu1) (vb_var 3 (fun _ => pv 3)) (VE.b ve_int) (fun _ _ => rfl)))) (vo_some (VE.b (ve_add ⟨fun _ => rfl, fun _ => rfl, fun _ => rfl⟩ (VE.b (ve_ix ⟨fun _ => rfl, fun _ => rfl, fun _ => rfl⟩ (fun _ => by exact hu1) (vb_var 3 (fun _ => pv 3)) (VE.b ve_int) (fun _ _ => rfl))) (VE.b (ve_ix ⟨fun _ => rfl, fun _ => rfl, fun _ => rfl⟩ (fun _ => by exact hu1) (vb_var 3 (fun _ => pv 3)) (VE.b ve_int) (fun _ _ => rfl)))))) (fun _ _ _ _ pa pl ph => pe_slice sl_U pa pl ph)) (fun _ _ p => ps_expr (pe_bm PySem.F.plainAttrs_list PySem.F.slot_list_extend PySem.F.type_list_extend mt_extend (pv 2) (pa_cons p pa_nil))))))) (fun _ _ _ _ p q r => ps_for (passes_of rfl) rfl p q r))
      (vss_one (vs_ret (ve_cl1 (fun _ _ p => pe_callTy call_tuple_of (by rfl) T.m_tuple (by decide +kernel) (pa_cons p pa_nil)) d_tuple (vb_var 2 (fun _ => pv 2)))))))))
abbrev s_rifts : Stmt := topS 21
theorem sc_rifts : FnScope ["old", "new", "whole", "sought", "starts", "start", "_", "at"] ["old", "new"] (defScope s_rifts) := ⟨rfl, rfl, rfl, by decide +kernel, rfl, by decide +kernel, by decide +kernel⟩
theorem bd_rifts {K : PySem.W.Frag} {f : Addr} {fd : FuncData} (F : Fun K "rifts" "rifts" s_rifts f fd) : Binds K fd ["old", "new"] [] := F.binds (fun _ _ _ _ _ _ us hl => match us, hl with | [_, _], _ => rfl)
noncomputable def e_rifts_1 : EX :=
    (Ev.tup (Ev.cons (Ev.o2 gIx (Ev.var 4) (Ev.var 7)) (Ev.cons (Ev.o2 gIx (Ev.var 4) (Ev.o2 gAdd (Ev.var 7) (Ev.c (.int 1)))) Ev.nil)))
noncomputable def b_rifts : ST :=
    (Sv.seq (Sv.par 2 3 (Ev.callE 1 f_text_of (Ev.cons (Ev.dat 0) Ev.nil)) (Ev.callE 1 f_text_of (Ev.cons (Ev.dat 1) Ev.nil)))
    (Sv.seq (Sv.set 4 (Ev.lc [5, 6] (Iv.items (Ev.call0 2 f_parts_of (Ev.cons (Ev.dat 2) (Ev.cons (Ev.dat 3) Ev.nil)))) (Gv.tup 2 (Gv.cons (Gv.name 5) (Gv.cons (Gv.name 6) Gv.nil))) Ev.yes (Ev.dat 5)))
    (Sv.ret (Ev.u1 gTuple (Ev.lc [7] (Iv.range1 (Ev.o2 (gI fun i j => some (.int (i - j))) (Ev.u1 lenD (Ev.var 4)) (Ev.c (.int 1)))) (Gv.name 7) Ev.yes e_rifts_1)))))
noncomputable def f_rifts := runF true false false 8 b_rifts
theorem ok_rifts {P : Program} {w : World} {K : PySem.W.Frag} {mg : Str → Option Value} {base : Heap} {Ts : List Addr} {Tq : List (Addr × Str)} {fv : Nat → V} (T : Bi mg) {a : Addr} {fd : FuncData} (D0 : DefAt K mg "rifts" s_rifts a fd)
    {a_parts_of : Addr} {d_parts_of : FuncData} (D_parts_of : DefAt K mg "parts_of" s_parts_of a_parts_of d_parts_of)
    (G_parts_of : ∀ (b : Heap) (lm : Lam), BX base b → FnOk P w K mg b CX0 4 a_parts_of d_parts_of ["whole", "sought"] (spF (GG K w mg Ts Tq fv lm) false true 2 f_parts_of))
    {a_text_of : Addr} {d_text_of : FuncData} (D_text_of : DefAt K mg "text_of" s_text_of a_text_of d_text_of)
    (G_text_of : ∀ (b : Heap) (lm : Lam), BX base b → FnOk P w K mg b (L2.CX P w) 9 a_text_of d_text_of ["run"] (spF (GG K w mg Ts Tq fv lm) false false 1 f_text_of))
    : ∀ (base' : Heap) (lm : Lam), BX base base' → FnOk P w K mg base' (L2.CX P w) 10 a fd ["old", "new"] (spF (GG K w mg Ts Tq fv lm) false false 2 f_rifts) := by
  intro base' lm hb0
  have g_parts_of := G_parts_of _ lm hb0
  have g_text_of := G_text_of _ lm hb0
  refine okFx D0.F sc_rifts rfl (by decide) (fun cdv A outer s H E U dd hr => ?_)
  have hu65 := room65 hr
  have hu64 := room64 hr
  have hu1 := room1 hr
  have hu0 := room0 hr
  exact (vss_cons (vs_par (i := 2) (j := 3) (fun _ _ _ p q => ps_par (i := 2) (j := 3) rfl sc_rifts.nd rfl rfl (by decide) rfl rfl (pa_cons p (pa_cons q pa_nil)) (by rfl)) (ve_callE (va_cons (ve_var 0 (fun _ => pv 0)) va_nil) (fun j_ _ p => pe_call g_text_of (hr.mono (by decide)) (by rfl) D_text_of.g D_text_of.F.kp (bd_text_of D_text_of.F) .nil (passes_call (takes_of rfl rfl rfl rfl) (fun _ _ _ _ h => h)) p)) (ve_callE (va_cons (ve_var 1 (fun _ => pv 1)) va_nil) (fun j_ _ p => pe_call g_text_of (hr.mono (by decide)) (by rfl) D_text_of.g D_text_of.F.kp (bd_text_of D_text_of.F) .nil (passes_call (takes_of rfl rfl rfl rfl) (fun _ _ _ _ h => h)) p)))
      (vss_cons (vs_set (i := 4) (x := "") (pos' := ⟨0, 0, 0, 0⟩) (fun _ _ p => ps_set (i := 4) sc_rifts.nd rfl (by first | exact Or.inl rfl | exact Or.inr rfl) p) (VF.ve (vf_lc (vs := [5, 6]) (vi_items ⟨fun _ => rfl, fun _ => rfl, fun _ => rfl⟩ (VF.ve (vf_call0 (va_cons (ve_var 2 (fun _ => pv 2)) (va_cons (ve_var 3 (fun _ => pv 3)) va_nil)) (fun j_ _ p => pe_call g_parts_of (hr.mono (by decide)) (by rfl) D_parts_of.g D_parts_of.F.kp (bd_parts_of D_parts_of.F) .nil pass0 p)))) (vg_tup (n := 2) (fun _ _ p => pg_tup (by rfl) p) (vgs_cons (vg_name (i := 5) (fun _ => pg_name (i := 5) (by exact sc_rifts.nd) (by rfl) (by first | exact Or.inl rfl | exact Or.inr rfl))) (vgs_cons (vg_name (i := 6) (fun _ => pg_name (i := 6) (by exact sc_rifts.nd) (by rfl) (by first | exact Or.inl rfl | exact Or.inr rfl))) vgs_nil))) vts_nil (ve_var 5 (fun _ => pv 5)) (by decide) (fun _ _ _ _ _ a b c d => pe_lc (own := [("start", 5), ("_", 6)]) (by rfl) sc_rifts.nd a (blkOk_by (own := [("start", 5), ("_", 6)]) (N := ["old", "new", "whole", "sought", "starts", "start", "_", "at"]) (sc := defScope s_rifts) (by decide +kernel)) b c d))))
      (vss_one (vs_ret (ve_cl1 (fun _ _ p => pe_callTy call_tuple_of (by rfl) T.m_tuple (by decide +kernel) (pa_cons p pa_nil)) d_tuple (VE.b (VF.ve (vf_lc (vs := [7]) (vi_range1 (fun _ _ p => pi_range1 (by rfl) T.m_range (pa_cons p pa_nil)) (VE.b (ve_sub (VE.b (ve_cl1 (fun _ _ p => pe_callB call_lenU (by rfl) T.m_len (by decide +kernel) (pa_cons p pa_nil)) d_len (vb_var 4 (fun _ => pv 4)))) (VE.b ve_int)))) (vg_name (i := 7) (fun _ => pg_name (i := 7) (by exact sc_rifts.nd) (by rfl) (by first | exact Or.inl rfl | exact Or.inr rfl))) vts_nil (ve_tup (va_cons (ve_ix ⟨fun _ => rfl, fun _ => rfl, fun _ => rfl⟩ (fun _ => by exact hu1) (vb_var 4 (fun _ => pv 4)) (vb_var 7 (fun _ => pv 7)) (fun _ _ => rfl)) (va_cons (ve_ix ⟨fun _ => rfl, fun _ => rfl, fun _ => rfl⟩ (fun _ => by exact hu1) (vb_var 4 (fun _ => pv 4)) (VE.b (ve_add ⟨fun _ => rfl, fun _ => rfl, fun _ => rfl⟩ (vb_var 7 (fun _ => pv 7)) (VE.b ve_int))) (fun _ _ => rfl)) va_nil))) (by decide) (fun _ _ _ _ _ a b c d => pe_lc (own := [("at", 7)]) (by rfl) sc_rifts.nd a (blkOk_by (own := [("at", 7)]) (N := ["old", "new", "whole", "sought", "starts", "start", "_", "at"]) (sc := defScope s_rifts) (by decide +kernel)) b c d)))))))))
abbrev s_is_pair_below : Stmt := topS 23
theorem sc_is_pair_below : FnScope ["thing", "many"] ["thing", "many"] (defScope s_is_pair_below) := ⟨rfl, rfl, rfl, by decide +kernel, rfl, by decide +kernel, by decide +kernel⟩
theorem bd_is_pair_below {K : PySem.W.Frag} {f : Addr} {fd : FuncData} (F : Fun K "is_pair_below" "is_pair_below" s_is_pair_below f fd) : Binds K fd ["thing", "many"] [] := F.binds (fun _ _ _ _ _ _ us hl => match us, hl with | [_, _], _ => rfl)
def b_is_pair_below : ST :=
    (Sv.seq (Sv.ite (Ev.tor (Ev.tnot (Ev.tt (Ev.u1 (isiD "tuple") (Ev.var 0)))) (Ev.tor (Ev.tb (Ev.o2 gNe (Ev.u1 lenD (Ev.var 0)) (Ev.c (.int 2)))) (Ev.tnot (Ev.tt (Ev.call0 1 f_is_number (Ev.cons (Ev.o2 gIx (Ev.var 0) (Ev.c (.int 1))) Ev.nil)))))) (Sv.ret (Ev.c (.bool false))) Sv.skip)
    (Sv.ret (Ev.andv (Ev.call0 3 f_within (Ev.cons (Ev.o2 gIx (Ev.var 0) (Ev.c (.int 0))) (Ev.cons (Ev.c (.int 0)) (Ev.cons (Ev.o2 (gI fun i j => some (.int (i - j))) (Ev.o2 gIx (Ev.var 0) (Ev.c (.int 1))) (Ev.c (.int 1))) Ev.nil)))) (Ev.o2 gLt (Ev.o2 gIx (Ev.var 0) (Ev.c (.int 1))) (Ev.var 1)))))
def f_is_pair_below := runF false false false 2 b_is_pair_below
theorem ok_is_pair_below {P : Program} {w : World} {K : PySem.W.Frag} {mg : Str → Option Value} {base : Heap} {Ts : List Addr} {Tq : List (Addr × Str)} {fv : Nat → V} (T : Bi mg) {a : Addr} {fd : FuncData} (D0 : DefAt K mg "is_pair_below" s_is_pair_below a fd)
    {a_within : Addr} {d_within : FuncData} (D_within : DefAt K mg "within" s_within a_within d_within)
    (G_within : ∀ (b : Heap) (lm : Lam), BX base b → FnOk P w K mg b CX0 3 a_within d_within ["thing", "low", "high"] (spF (GG K w mg Ts Tq fv lm) false false 3 f_within))
    {a_is_number : Addr} {d_is_number : FuncData} (D_is_number : DefAt K mg "is_number" s_is_number a_is_number d_is_number)
    (G_is_number : ∀ (b : Heap) (lm : Lam), BX base b → FnOk P w K mg b CX0 2 a_is_number d_is_number ["thing"] (spF (GG K w mg Ts Tq fv lm) false false 1 f_is_number))
    : ∀ (base' : Heap) (lm : Lam), BX base base' → FnOk P w K mg base' CX0 4 a fd ["thing", "many"] (spF (GG K w mg Ts Tq fv lm) false false 2 f_is_pair_below) := by
  intro base' lm hb0
  have g_within := G_within _ lm hb0
  have g_is_number := G_is_number _ lm hb0
  refine okF D0.F sc_is_pair_below rfl (by decide) (fun cdv A outer s H E U dd hr => ?_)
  have hu65 := room65 hr
  have hu64 := room64 hr
  have hu1 := room1 hr
  have hu0 := room0 hr
  exact (vss_cons (vs_if (VW.vt (vw_or (vt_not (vt_truth ⟨fun _ => rfl, fun _ => rfl, fun _ => rfl⟩ (VE.b (ve_isi (T := "tuple") (fb := fun _ D => .stuck) ⟨fun _ => rfl, fun _ => rfl, fun _ => rfl⟩ (vb_var 0 (fun _ => pv 0)) (fun _ _ p => pe_callB call_isi (by rfl) T.m_isinstance (by decide +kernel) (pa_cons p (pa_cons (pe_bltn (v := .ty "tuple") (by rfl) T.m_tuple (by decide +kernel) rfl) pa_nil))))))) (vw_or (vt_ne ⟨fun _ => rfl, fun _ => rfl, fun _ => rfl⟩ (fun _ => by exact hu64) (VE.b (ve_cl1 (fun _ _ p => pe_callB call_lenU (by rfl) T.m_len (by decide +kernel) (pa_cons p pa_nil)) d_len (vb_var 0 (fun _ => pv 0)))) (VE.b ve_int)) (vw_or1 (vt_not (vt_truth ⟨fun _ => rfl, fun _ => rfl, fun _ => rfl⟩ (VE.b (ve_call0 (va_cons (ve_ix ⟨fun _ => rfl, fun _ => rfl, fun _ => rfl⟩ (fun _ => by exact hu1) (vb_var 0 (fun _ => pv 0)) (VE.b ve_int) (fun _ _ => rfl)) va_nil) (fun j_ _ p => pe_call g_is_number (hr.mono (by decide)) (by rfl) D_is_number.g D_is_number.F.kp (bd_is_number D_is_number.F) .nil pass0 p))))))))) (vss_one (vs_ret ve_bl)) vss_nil)
      (vss_one (vs_ret (ve_and ⟨fun _ => rfl, fun _ => rfl, fun _ => rfl⟩ (ve_call0 (va_cons (ve_ix ⟨fun _ => rfl, fun _ => rfl, fun _ => rfl⟩ (fun _ => by exact hu1) (vb_var 0 (fun _ => pv 0)) (VE.b ve_int) (fun _ _ => rfl)) (va_cons ve_int (va_cons (ve_sub (VE.b (ve_ix ⟨fun _ => rfl, fun _ => rfl, fun _ => rfl⟩ (fun _ => by exact hu1) (vb_var 0 (fun _ => pv 0)) (VE.b ve_int) (fun _ _ => rfl))) (VE.b ve_int)) va_nil))) (fun j_ _ p => pe_call g_within (hr.mono (by decide)) (by rfl) D_within.g D_within.F.kp (bd_within D_within.F) .nil pass0 p)) (ve_one (ve_lt ⟨fun _ => rfl, fun _ => rfl, fun _ => rfl⟩ (fun _ => by exact hu0) (VE.b (ve_ix ⟨fun _ => rfl, fun _ => rfl, fun _ => rfl⟩ (fun _ => by exact hu1) (vb_var 0 (fun _ => pv 0)) (VE.b ve_int) (fun _ _ => rfl))) (vb_var 1 (fun _ => pv 1))))))))
theorem ok_is_tuple_of__L5 {P : Program} {w : World} {K : PySem.W.Frag} {mg : Str → Option Value} {base : Heap} {Ts : List Addr} {Tq : List (Addr × Str)} {fv : Nat → V} {lm : Lam} (T : Bi mg) {a : Addr} {fd : FuncData} (D0 : DefAt K mg "is_tuple_of" s_is_tuple_of a fd) {F : List PyData → List PyData → Dw → R PyData}
    (GL : LmOk P w K mg base 5 lm 1 (spL (GG K w mg Ts Tq fv lm) 1 F))
    {c0 P0 : Addr} (hc0 : fd.code = .ref c0) (TB0 : GxR.TabB base mg c0 P0) (hP0 : P0 ∈ Ts) (hq0 : ∀ p ∈ Tq, p.1 ≠ P0)
    : FnOk P w K mg base CX0 9 a fd ["thing", "is_part"] (spC (GG K w mg Ts Tq fv lm) 1 (f_is_tuple_of__L F)) := by
  refine okCl D0.F hc0 sc_is_tuple_of rfl (by decide) (fun A outer s H E U hr => ?_)
  have hu65 := room65 hr
  have hu64 := room64 hr
  have hu1 := room1 hr
  have hu0 := room0 hr
  exact (vss_one (vs_ret (ve_and ⟨fun _ => rfl, fun _ => rfl, fun _ => rfl⟩ (ve_isi (T := "tuple") (fb := fun _ D => .stuck) ⟨fun _ => rfl, fun _ => rfl, fun _ => rfl⟩ (vb_var 0 (fun _ => pv 0)) (fun _ _ p => pe_callB call_isi (by rfl) T.m_isinstance (by decide +kernel) (pa_cons p (pa_cons (pe_bltn (v := .ty "tuple") (by rfl) T.m_tuple (by decide +kernel) rfl) pa_nil)))) (ve_one (ve_all (own := ["part"]) (n := 1) (ks := [2]) hP0 hq0 (vi_items ⟨fun _ => rfl, fun _ => rfl, fun _ => rfl⟩ (ve_var 0 (fun _ => pv 0))) (vg_name (i := 2) (fun _ => pg_name (i := 2) (by exact (show (["thing", "is_part", "part"] : List Str).Nodup by decide)) (by rfl) (by first | exact Or.inl rfl | exact Or.inr rfl))) (ve_callC (i := 1) (n := 1) (va_cons (ve_var 2 (fun _ => pv 2)) va_nil) (fun j_ _ p => pe_callLm (i := 1) GL ((hr.in1.in1.deeper _).mono (by decide)) (by rfl) (by first | exact .inl rfl | exact .inr (.inl rfl) | exact .inr (.inr rfl)) p)) (fun _ _ _ _ a b c => pe_allG (own := ["part"]) hr (by rfl) T.m_all (by decide +kernel) rfl TB0 rfl (genOk_by (by rfl)) a b c))))))
abbrev s_is_rifts : Stmt := topS 22
theorem sc_is_rifts : FnScope ["old", "new", "thing", "whole", "sought", "at", "i", "j"] ["old", "new", "thing"] (defScope s_is_rifts) := ⟨rfl, rfl, rfl, by decide +kernel, rfl, by decide +kernel, by decide +kernel⟩
theorem bd_is_rifts {K : PySem.W.Frag} {f : Addr} {fd : FuncData} (F : Fun K "is_rifts" "is_rifts" s_is_rifts f fd) : Binds K fd ["old", "new", "thing"] [] := F.binds (fun _ _ _ _ _ _ us hl => match us, hl with | [_, _, _], _ => rfl)
def q_is_rifts : Str := (envOfC "is_rifts" (defScope s_is_rifts) 0 0 .none).qual ++ "<lambda>"
def w_is_rifts_1 : ST :=
    (Sv.seq (Sv.ite (Ev.tand (Ev.tb (Ev.o2 (gB fun i j => decide (j < i)) (Ev.var 5) (Ev.c (.int 0)))) (Ev.tb (Ev.o2 gLt (Ev.var 6) (Ev.o2 gIx (Ev.o2 gIx (Ev.var 2) (Ev.o2 (gI fun i j => some (.int (i - j))) (Ev.var 5) (Ev.c (.int 1)))) (Ev.c (.int 1)))))) (Sv.ret (Ev.c (.bool false))) Sv.skip)
    (Sv.ite (Ev.tb (Ev.o2 gIn (Ev.sl (Ev.var 4) (Ev.part (Ev.var 6)) (Ev.part (Ev.o2 gAdd (Ev.var 7) (Ev.c (.int 1))))) (Ev.var 3))) (Sv.ret (Ev.c (.bool false))) Sv.skip))
def fL_is_rifts_1 : List PyData → List PyData → Dw → R PyData := runL 2
    (Ev.call0 2 f_is_pair_below (Ev.cons (Ev.dat 0) (Ev.cons (Ev.u1 lenD (Ev.var 1)) Ev.nil)))
def b_is_rifts : ST :=
    (Sv.seq (Sv.asg (Gv.tup 2 (Gv.cons (Gv.name 3) (Gv.cons (Gv.name 4) Gv.nil))) (Ev.tup (Ev.cons (Ev.callE 1 f_text_of (Ev.cons (Ev.dat 0) Ev.nil)) (Ev.cons (Ev.callE 1 f_text_of (Ev.cons (Ev.dat 1) Ev.nil)) Ev.nil))))
    (Sv.seq (Sv.ite (Ev.tnot (Ev.tt (Ev.lamC [4] 1 (f_is_tuple_of__L fL_is_rifts_1) (Ev.cons (Ev.dat 2) Ev.nil)))) (Sv.ret (Ev.c (.bool false))) Sv.skip)
    (Sv.seq (Sv.for_ (Iv.enum (Ev.dat 2)) (Gv.tup 2 (Gv.cons (Gv.name 5) (Gv.cons (Gv.tup 2 (Gv.cons (Gv.name 6) (Gv.cons (Gv.name 7) Gv.nil))) Gv.nil))) w_is_rifts_1)
    (Sv.ret (Ev.c (.bool true))))))
def f_is_rifts := runF true false false 8 b_is_rifts
theorem ok_is_rifts {P : Program} {w : World} {K : PySem.W.Frag} {mg : Str → Option Value} {base : Heap} {Ts : List Addr} {Tq : List (Addr × Str)} {fv : Nat → V} (T : Bi mg) {a : Addr} {fd : FuncData} (D0 : DefAt K mg "is_rifts" s_is_rifts a fd)
    {a_text_of : Addr} {d_text_of : FuncData} (D_text_of : DefAt K mg "text_of" s_text_of a_text_of d_text_of)
    (G_text_of : ∀ (b : Heap) (lm : Lam), BX base b → FnOk P w K mg b (L2.CX P w) 9 a_text_of d_text_of ["run"] (spF (GG K w mg Ts Tq fv lm) false false 1 f_text_of))
    {a_is_pair_below : Addr} {d_is_pair_below : FuncData} (D_is_pair_below : DefAt K mg "is_pair_below" s_is_pair_below a_is_pair_below d_is_pair_below)
    (G_is_pair_below : ∀ (b : Heap) (lm : Lam), BX base b → FnOk P w K mg b CX0 4 a_is_pair_below d_is_pair_below ["thing", "many"] (spF (GG K w mg Ts Tq fv lm) false false 2 f_is_pair_below))
    {c0 P0 : Addr} (hc0 : fd.code = .ref c0) (LB0 : LamX.TabB base mg c0 P0) (hPQ : (P0, q_is_rifts) ∈ Tq) (huq : ∀ p ∈ Tq, p.1 = P0 → p.2 = q_is_rifts) (hnT : P0 ∉ Ts)
    {a_is_tuple_of : Addr} {d_is_tuple_of : FuncData} (D_is_tuple_of : DefAt K mg "is_tuple_of" s_is_tuple_of a_is_tuple_of d_is_tuple_of)
    {c_is_tuple_of P_is_tuple_of : Addr} (hc_is_tuple_of : d_is_tuple_of.code = .ref c_is_tuple_of) (TB_is_tuple_of : GxR.TabB base mg c_is_tuple_of P_is_tuple_of) (hP_is_tuple_of : P_is_tuple_of ∈ Ts) (hq_is_tuple_of : ∀ p ∈ Tq, p.1 ≠ P_is_tuple_of)
    : ∀ (base' : Heap) (lm : Lam), BX base base' → FnOk P w K mg base' (L2.CX P w) 10 a fd ["old", "new", "thing"] (spF (GG K w mg Ts Tq fv lm) false false 3 f_is_rifts) := by
  intro base' lm hb0
  have g_text_of := G_text_of _ lm hb0
  replace G_is_pair_below := fun b l (h : BX base' b) => G_is_pair_below b l (hb0.trans h)
  replace TB_is_tuple_of := gtab_grown TB_is_tuple_of hb0
  replace LB0 := ltab_grown LB0 hb0
  refine okFCx D0.F hc0 sc_is_rifts rfl (by decide) (fun A outer s H E U dd hr => ?_)
  have hu65 := room65 hr
  have hu64 := room64 hr
  have hu1 := room1 hr
  have hu0 := room0 hr
  exact (vss_cons (vs_asg (vg_tup (n := 2) (fun _ _ p => pg_tup (by rfl) p) (vgs_cons (vg_name (i := 3) (fun _ => pg_name (i := 3) (by exact sc_is_rifts.nd) (by rfl) (by first | exact Or.inl rfl | exact Or.inr rfl))) (vgs_cons (vg_name (i := 4) (fun _ => pg_name (i := 4) (by exact sc_is_rifts.nd) (by rfl) (by first | exact Or.inl rfl | exact Or.inr rfl))) vgs_nil))) (ve_tup (va_cons (ve_callE (va_cons (ve_var 0 (fun _ => pv 0)) va_nil) (fun j_ _ p => pe_call g_text_of (hr.mono (by decide)) (by rfl) D_text_of.g D_text_of.F.kp (bd_text_of D_text_of.F) .nil (passes_call (takes_of rfl rfl rfl rfl) (fun _ _ _ _ h => h)) p)) (va_cons (ve_callE (va_cons (ve_var 1 (fun _ => pv 1)) va_nil) (fun j_ _ p => pe_call g_text_of (hr.mono (by decide)) (by rfl) D_text_of.g D_text_of.F.kp (bd_text_of D_text_of.F) .nil (passes_call (takes_of rfl rfl rfl rfl) (fun _ _ _ _ h => h)) p)) va_nil))) (fun _ _ _ p q => ps_asg p q))
      (vss_cons (vs_if (vt_not (vt_truth ⟨fun _ => rfl, fun _ => rfl, fun _ => rfl⟩ (VE.b (ve_lamC (k := 9) (base := base') (P := P0) (q := q_is_rifts) (fr := ["sought"]) (js := [4]) (F := f_is_tuple_of__L fL_is_rifts_1) (fun _ => rfl) (fun _ => rfl) hPQ huq hnT (ve_var 2 (fun _ => pv 2)) (fun _ _ _ hF p0 => pe_callRe hF (hr.mono (by decide)) (by rfl) D_is_tuple_of.g D_is_tuple_of.F.kp (bd_is_tuple_of D_is_tuple_of.F) (fun ok => Caps.made ok (ndef_free (sc := defScope s_is_rifts) (fr := ["sought"]) (by decide +kernel)) (ndef_fr (sc := defScope s_is_rifts) (fr := ["sought"]) (by decide +kernel)) (by rfl)) (fun _ => rfl) (pa_cons p0 (pa_cons (pe_lm LB0 rfl (by rfl) (ndef_free (sc := defScope s_is_rifts) (fr := ["sought"]) (by decide +kernel))) pa_nil))) (fun _ b l hl => by
        have g_is_pair_below := G_is_pair_below b l hl.bx
        obtain ⟨f', c', q', pr', bd', sc', cl', vs'⟩ := l
        obtain ⟨bx, e1, e2, e3, e4, cap⟩ := hl
        dsimp only at e1 e2 e3 e4 cap
        subst e1 e2 e3 e4
        exact ok_is_tuple_of__L5 T D_is_tuple_of (ok_lam (N := ["rift", "sought"]) (ps := ["rift"]) (fr := ["sought"]) rfl (by refine nscope_by ?_; dsimp only; decide +kernel) rfl cap (fun _ _ us h => match us, h with | [_], _ => rfl) (fun A outer s H E U hr => by
          have hu65 := room65 hr
          have hu64 := room64 hr
          have hu1 := room1 hr
          have hu0 := room0 hr
          exact (ve_call0 (va_cons (ve_var 0 (fun _ => pv 0)) (va_cons (ve_cl1 (fun _ _ p => pe_callB call_lenU (by rfl) T.m_len (by decide +kernel) (pa_cons p pa_nil)) d_len (vb_var 1 (fun _ => pv 1))) va_nil)) (fun j_ _ p => pe_call g_is_pair_below (hr.mono (by decide)) (by rfl) D_is_pair_below.g D_is_pair_below.F.kp (bd_is_pair_below D_is_pair_below.F) .nil pass0 p))))  hc_is_tuple_of (gtab_grown TB_is_tuple_of bx) hP_is_tuple_of hq_is_tuple_of))))) (vss_one (vs_ret ve_bl)) vss_nil)
      (vss_cons (vs_for (vi_enum (fun _ _ p => pi_enumU (by rfl) T.m_enumerate (pa_cons p pa_nil)) (ve_var 2 (fun _ => pv 2))) (vg_tup (n := 2) (fun _ _ p => pg_tup (by rfl) p) (vgs_cons (vg_name (i := 5) (fun _ => pg_name (i := 5) (by exact sc_is_rifts.nd) (by rfl) (by first | exact Or.inl rfl | exact Or.inr rfl))) (vgs_cons (vg_tup (n := 2) (fun _ _ p => pg_tup (by rfl) p) (vgs_cons (vg_name (i := 6) (fun _ => pg_name (i := 6) (by exact sc_is_rifts.nd) (by rfl) (by first | exact Or.inl rfl | exact Or.inr rfl))) (vgs_cons (vg_name (i := 7) (fun _ => pg_name (i := 7) (by exact sc_is_rifts.nd) (by rfl) (by first | exact Or.inl rfl | exact Or.inr rfl))) vgs_nil))) vgs_nil))) (vss_cons (vs_if (VW.vt (vw_and (vt_gt (vb_var 5 (fun _ => pv 5)) (VE.b ve_int)) (vw_and1 (vt_lt ⟨fun _ => rfl, fun _ => rfl, fun _ => rfl⟩ (fun _ => by exact hu0) (vb_var 6 (fun _ => pv 6)) (VE.b (ve_ix ⟨fun _ => rfl, fun _ => rfl, fun _ => rfl⟩ (fun _ => by exact hu1) (VE.b (ve_ix ⟨fun _ => rfl, fun _ => rfl, fun _ => rfl⟩ (fun _ => by exact hu1) (vb_var 2 (fun _ => pv 2)) (VE.b (ve_sub (vb_var 5 (fun _ => pv 5)) (VE.b ve_int))) (fun _ _ => rfl))) (VE.b ve_int) (fun _ _ => rfl))))))) (vss_one (vs_ret ve_bl)) vss_nil)
      (vss_one (vs_if (vt_in ⟨fun _ => rfl, fun _ => rfl, fun _ => rfl⟩ (fun _ => by exact hu65) (VE.b (ve_sl (vb_var 4 (fun _ => pv 4)) (vo_some (vb_var 6 (fun _ => pv 6))) (vo_some (VE.b (ve_add ⟨fun _ => rfl, fun _ => rfl, fun _ => rfl⟩ (vb_var 7 (fun _ => pv 7)) (VE.b ve_int)))) (fun _ _ _ _ pa pl ph => pe_slice sl_U pa pl ph))) (vb_var 3 (fun _ => pv 3)) (by rfl)) (vss_one (vs_ret ve_bl)) vss_nil))) (fun _ _ _ _ p q r => ps_for (passes_of rfl) rfl p q r))
      (vss_one (vs_ret ve_bl)))))
abbrev s_l_mixed : Stmt := topS 26
theorem sc_l_mixed : FnScope ["draw", "turn", "found", "prime", "blend", "grain"] ["draw"] (defScope s_l_mixed) := ⟨rfl, rfl, rfl, by decide +kernel, rfl, by decide +kernel, by decide +kernel⟩
theorem bd_l_mixed {K : PySem.W.Frag} {f : Addr} {fd : FuncData} (F : Fun K "_law_mixed" "_law_mixed" s_l_mixed f fd) : Binds K fd ["draw"] [] := F.binds (fun _ _ _ _ _ _ us hl => match us, hl with | [_], _ => rfl)
theorem okk_l_mixed {P : Program} {w : World} {K : PySem.W.Frag} {mg : Str → Option Value} {base : Heap} {Ts : List Addr} {Tq : List (Addr × Str)} {fv : Nat → V} {lm : Lam} (T : Bi mg) {a : Addr} {fd : FuncData} (D0 : DefAt K mg "_law_mixed" s_l_mixed a fd)
    : FnOk P w K mg base CX0 2 a fd ["draw"] (spF (GG K w mg Ts Tq fv lm) true false 0 f_l_mixed) := by
  refine D0.F.ok sc_l_mixed (fun vs H Q E h => by rw [spF_len h]; rfl) (fun cdv A outer s H vs Q E hr h => ?_)
  obtain ⟨d, w, c, D, rfl, hD, ht0, ht1, q⟩ := spF_mix h
  have hu1 : (A.deeper (envOfC "_law_mixed" (defScope s_l_mixed) s.heap.objs.size a cdv)).units + 1 < cLine := by have := hr.un; omega
  refine ⟨_, (pss_cons (ps_par (i := 1) (j := 2) (by rfl) sc_l_mixed.nd rfl rfl (by decide) rfl rfl (pa_cons (pe_op op_add (pe_dget hu1 (pv 0) pe_str (fun _ _ => rfl)) pe_int) (pa_cons pe_int pa_nil)) (by rfl))
    (pss_cons (ps_dput hu1 (pv 0) pe_str (pv 1) rfl)
    (pss_cons (ps_for PassesOwn.never rfl (pi_list (pe_lst (pa_cons pe_int (pa_cons pe_int (pa_cons pe_int (pa_cons pe_int pa_nil)))))) (pg_name (i := 3) sc_l_mixed.nd rfl (.inl rfl)) (pss_cons (ps_set (i := 4) sc_l_mixed.nd rfl (.inl rfl) (pe_op op_add (pe_op op_mul pe_int (pv 1)) (pe_op op_fdiv (pv 3) pe_int)))
      (pss_cons (ps_for PassesOwn.never rfl (pi_list (pe_dget hu1 (pv 0) pe_str (fun _ _ => rfl))) (pg_name (i := 5) sc_l_mixed.nd rfl (.inl rfl)) (pss_one (ps_set (i := 4) sc_l_mixed.nd rfl (.inl rfl) (pe_op op_mod (pe_callTy call_int1 (by rfl) T.m_int (by decide +kernel) (pa_cons (pe_op op_add (pe_op op_add (pe_op op_mul (pv 4) pe_int) (pv 5)) (pv 1)) pa_nil)) (pv 3)))))
      (pss_one (ps_set (i := 2) sc_l_mixed.nd rfl (.inl rfl) (pe_op op_add (pe_op op_mul (pv 2) pe_int) (pe_op op_mod (pe_callTy call_int1 (by rfl) T.m_int (by decide +kernel) (pa_cons (pe_op op_pow (pv 4) pe_int) pa_nil)) (pv 3))))))))
    (pss_one (ps_ret (pv 2)))))), ?_⟩
  have ed := hD.dr
  have ew := hD.wi
  have ec := hD.ce
  obtain ⟨ndw, ndc⟩ := hD.dw
  refine ⟨.ref d, rfl, d, .int D.turn, rfl, get_t ed, D.turn, 1, rfl, rfl, .int (D.turn + 1), .int 0, rfl, ?_⟩
  refine ⟨.int (D.turn + 1), rfl, .ref d, rfl, d, _, rfl, put_t ed, ?_⟩
  have k1 : Kp [d] H (upd H d (.dK (drawKV w c D.rest (D.turn + 1)))) := Kp.refl.set (List.mem_singleton.mpr rfl) fun u e => by rw [ed] at e; cases e; rfl
  refine ⟨big1000 (by show 4 ≤ 1000; omega), fun l nl => ⟨l, rfl, ⟨_, sqL upd_same⟩, ?_⟩⟩
  obtain ⟨HH, eHH⟩ : ∃ HH, HH = upd (upd H d (.dK (drawKV w c D.rest (D.turn + 1)))) l (.lst [.int 2147483647, .int 2147483629, .int 2147483587, .int 2147483579]) := ⟨_, rfl⟩
  have k2 : Kp [d] H HH := by rw [eHH]; exact k1.trans (Kp.new nl)
  have el : HH l = some (.lst [.int 2147483647, .int 2147483629, .int 2147483587, .int 2147483579]) := by rw [eHH, upd_same]
  have ed2 : HH d = some (.dK (drawKV w c D.rest (D.turn + 1))) := by rw [eHH, upd_ne (ne_of_none upd_same nl), upd_same]
  have ew2 : HH w = some (.lst (D.wide.map V.int)) := k2 _ _ ew (.inr fun z => ndw (List.mem_singleton.mp z).symm)
  have ec2 : HH c = some (.lst (D.cells.map V.int)) := k2 _ _ ec (.inr fun z => ndc (List.mem_singleton.mp z).symm)
  have hD2 : DrE HH d w c { D with turn := D.turn + 1 } := ⟨ed2, ew2, ec2, hD.lw, hD.lc, hD.wc⟩
  rw [← eHH]
  have ht2 : 0 ≤ D.turn + 1 ∧ D.turn + 1 ≤ 1000000001 := by omega
  generalize D.turn + 1 = t at *
  refine for_list (K := K) (a := l) (xs := [.int 2147483647, .int 2147483629, .int 2147483587, .int 2147483579]) (fun i σ H' => H' = HH ∧ ∃ y3 y4 y5, σ = [some (.ref d), some (.int t), some (.int ((primes.take i).foldl (fun fo p => fo * 2147483647 + (mixG D.cells t p) ^ 5 % p) 0)), y3, y4, y5])
    ⟨rfl, _, _, _, rfl⟩ (fun i σ H' _ ⟨e, _⟩ => by rw [e]; exact sqL el) ?_ ?_
  · rintro i x σ H' hi ⟨rfl, y3, y4, y5, rfl⟩
    have hi2 : (primes.map V.int)[i]? = some x := hi
    rw [List.getElem?_map] at hi2
    obtain ⟨p, hp0, rfl⟩ : ∃ p : Int, primes[i]? = some p ∧ V.int p = x := by
      cases e : primes[i]? with
      | none => rw [e] at hi2; cases hi2
      | some p => rw [e] at hi2; exact ⟨p, rfl, Option.some.inj hi2⟩
    have hp : 1000000 < p ∧ p < 2147483648 := by
      have hm := List.mem_of_getElem? hp0
      simp only [primes, List.mem_cons, List.not_mem_nil, or_false] at hm
      rcases hm with e | e | e | e <;> rw [e] <;> exact ⟨by decide, by decide⟩
    obtain ⟨hp, hp2⟩ := hp
    generalize hfo : (primes.take i).foldl (fun fo p => fo * 2147483647 + (mixG D.cells t p) ^ 5 % p) 0 = fo
    refine ⟨.int t, rfl, 48271, t, rfl, rfl, .inl (by decide), .int p, rfl, p, 37, rfl, rfl, ⟨by decide, by decide⟩, _, _, rfl, rfl, ?_⟩
    refine ⟨.ref d, rfl, d, .ref c, rfl, get_c ed2, c, rfl, ⟨_, sqL ec2⟩, ?_⟩
    refine for_list (K := K) (a := c) (xs := D.cells.map V.int) (fun j σ H'' => H'' = H' ∧ ∃ y5, σ = [some (.ref d), some (.int t), some (.int fo), some (.int p), some (.int ((D.cells.take j).foldl (fun b g => (b * 69621 + g + t) % p) (48271 * t + p / 37))), y5])
      ⟨rfl, _, rfl⟩ (fun i σ H'' _ ⟨e, _⟩ => by rw [e]; exact sqL ec2) ?_ ?_
    · rintro j x σ H'' hj ⟨rfl, y5, rfl⟩
      rw [List.getElem?_map] at hj
      obtain ⟨g, hg, rfl⟩ : ∃ g : Int, D.cells[j]? = some g ∧ V.int g = x := by
        cases e : D.cells[j]? with
        | none => rw [e] at hj; cases hj
        | some g => rw [e] at hj; exact ⟨g, rfl, Option.some.inj hj⟩
      have es := fold_take (fun b g => (b * 69621 + g + t) % p) (48271 * t + p / 37) D.cells j g hg
      generalize (D.cells.take j).foldl (fun b g => (b * 69621 + g + t) % p) (48271 * t + p / 37) = b at es
      refine ⟨.int b, rfl, b, 69621, rfl, rfl, .inr (by decide), .int g, rfl, _, _, rfl, rfl, .int t, rfl, _, _, rfl, rfl, .inl ⟨_, rfl, .int p, rfl, _, p, rfl, rfl, by show (0 : Int) < p; omega, rfl, some (.int g), ?_⟩⟩
      rw [es]; rfl
    · rintro σ H'' ⟨rfl, y5, rfl⟩
      rw [List.length_map, List.take_length]
      have hb : -1000000000000000 ≤ mixG D.cells t p ∧ mixG D.cells t p ≤ 1000000000000000 := by
        unfold mixG
        rcases List.eq_nil_or_concat D.cells with e | ⟨cs', g, e⟩
        · rw [e]
          show -1000000000000000 ≤ 48271 * t + p / 37 ∧ 48271 * t + p / 37 ≤ 1000000000000000
          omega
        · rw [e, List.concat_eq_append, List.foldl_append]
          generalize List.foldl (fun b g => (b * 69621 + g + t) % p) (48271 * t + p / 37) cs' = z
          show -1000000000000000 ≤ (z * 69621 + g + t) % p ∧ (z * 69621 + g + t) % p ≤ 1000000000000000
          have h1 := Int.emod_nonneg (z * 69621 + g + t) (show p ≠ 0 by omega)
          have h2 := Int.emod_lt_of_pos (z * 69621 + g + t) (show 0 < p by omega)
          omega
      have es := fold_take (fun fo p => fo * 2147483647 + (mixG D.cells t p) ^ 5 % p) 0 primes i p hp0
      rw [hfo] at es
      have eb : D.cells.foldl (fun b g => (b * 69621 + g + t) % p) (48271 * t + p / 37) = mixG D.cells t p := rfl
      rw [eb]
      generalize mixG D.cells t p = b at es hb
      obtain ⟨hb1, hb2⟩ := hb
      refine ⟨.int fo, rfl, fo, 2147483647, rfl, rfl, .inr (by decide), .int b, rfl, b, 5, rfl, rfl, ⟨by decide, by decide, by omega⟩, .inl ⟨_, rfl, .int p, rfl, _, p, rfl, rfl, by show (0 : Int) < p; omega, _, _, rfl, rfl, rfl, some (.int p), some (.int b), y5, ?_⟩⟩
      rw [es]; rfl
  · rintro σ H' ⟨rfl, y3, y4, y5, rfl⟩
    exact ⟨_, rfl, q _ k2 hD2⟩
theorem ok_l_mixed {P : Program} {w : World} {K : PySem.W.Frag} {mg : Str → Option Value} {base : Heap} {Ts : List Addr} {Tq : List (Addr × Str)} {fv : Nat → V} (T : Bi mg) {a : Addr} {fd : FuncData} (D0 : DefAt K mg "_law_mixed" s_l_mixed a fd)
    : ∀ (b : Heap) (lm : Lam), BX base b → FnOk P w K mg b CX0 2 a fd ["draw"] (spF (GG K w mg Ts Tq fv lm) true false 0 f_l_mixed) := fun b lm _ => okk_l_mixed T D0

abbrev s_l_take : Stmt := topS 27
theorem sc_l_take : FnScope ["draw", "many", "found"] ["draw", "many"] (defScope s_l_take) := ⟨rfl, rfl, rfl, by decide +kernel, rfl, by decide +kernel, by decide +kernel⟩
theorem bd_l_take {K : PySem.W.Frag} {f : Addr} {fd : FuncData} (F : Fun K "_law_take" "_law_take" s_l_take f fd) : Binds K fd ["draw", "many"] [] := F.binds (fun _ _ _ _ _ _ us hl => match us, hl with | [_, _], _ => rfl)
theorem okk_l_take {P : Program} {w : World} {K : PySem.W.Frag} {mg : Str → Option Value} {base : Heap} {Ts : List Addr} {Tq : List (Addr × Str)} {fv : Nat → V} {lm : Lam} (T : Bi mg) {a : Addr} {fd : FuncData} (D0 : DefAt K mg "_law_take" s_l_take a fd)
    {f1 : Addr} {fd1 : FuncData} (D1 : DefAt K mg "_law_mixed" s_l_mixed f1 fd1) (G1 : FnOk P w K mg base CX0 2 f1 fd1 ["draw"] (spF (GG K w mg Ts Tq fv lm) true false 0 f_l_mixed))
    : FnOk P w K mg base CX0 3 a fd ["draw", "many"] (spF (GG K w mg Ts Tq fv lm) true false 1 f_l_take) := by
  refine D0.F.ok sc_l_take (fun vs H Q E h => by rw [spF_len h]; rfl) (fun cdv A outer s H vs Q E hr h => ?_)
  obtain ⟨d, w1, c, D, many, rfl, hD, tb, hm, hm2, ht0, ht1, q⟩ := spF_take h
  have hu1 : (A.deeper (envOfC "_law_take" (defScope s_l_take) s.heap.objs.size a cdv)).units + 1 < cLine := by have := hr.un; omega
  refine ⟨_, (pss_cons (ps_if (pt_cmpR op_eq (pe_dget hu1 (pv 0) pe_str (fun _ _ => rfl)) pe_int (nomark _)) (pss_one (ps_dput hu1 (pv 0) pe_str (pe_ifExp (pt_cmpR (op_neD hr.units) (pe_dget hu1 (pv 0) pe_str (fun _ _ => rfl)) (pe_lst pa_nil) (nomark _)) (pe_bm PySem.F.plainAttrs_list PySem.F.slot_list_pop PySem.F.type_list_pop mt_popAt (pe_dget hu1 (pv 0) pe_str (fun _ _ => rfl)) (pa_cons pe_int pa_nil)) (pe_call G1 hr (by rfl) D1.g D1.F.kp (bd_l_mixed D1.F) .nil pass0 (pa_cons (pv 0) pa_nil))) rfl)) pss_nil)
    (pss_cons (ps_set (i := 2) sc_l_take.nd rfl (.inl rfl) (pe_op op_mod (pe_callTy call_int1 (by rfl) T.m_int (by decide +kernel) (pa_cons (pe_dget hu1 (pv 0) pe_str (fun _ _ => rfl)) pa_nil)) (pv 1)))
    (pss_cons (ps_dput hu1 (pv 0) pe_str (pe_op op_fdiv (pe_dget hu1 (pv 0) pe_str (fun _ _ => rfl)) (pv 1)) rfl)
    (pss_one (ps_ret (pv 2)))))), ?_⟩
  -- behind the if
  have fin : ∀ (H1 : Hp) (D1 : Dw) (r : Int), Kp ((GG K w mg Ts Tq fv lm).tabs ++ [d, w1]) H H1 → TbOk (GG K w mg Ts Tq fv lm) H1 → DrE H1 d w1 c D1 → D1.rest = r → (∀ H', Kp ((GG K w mg Ts Tq fv lm).tabs ++ [d, w1]) H H' → TbOk (GG K w mg Ts Tq fv lm) H' → DrE H' d w1 c { D1 with rest := r / many } → Q (.int (r % many)) H') → tSeq (tAsg (tOp (rI (fun _ j => 0 < j) fun i j => .int (i % j)) (tCB (fun xs H Q => (∃ i, xs = [.int i] ∧ Q (.int i) H) ∨ ∃ k, xs = [.bl k] ∧ Q (.int (if k then 1 else 0)) H) (tCons (tDGet (tVar 0) (tC (.str "rest"))) tNil)) (tVar 1)) (gName 2))
      (tSeq (sDPut (tVar 0) (tC (.str "rest")) (tOp (rI CDiv fun i j => .int (i / j)) (tDGet (tVar 0) (tC (.str "rest"))) (tVar 1))) (tRet (tVar 2))) { nx := fun _ H' => Q .non H', rt := Q } [some (.ref d), some (.int many), none] H1 := by
    intro H1 D1 r k1 tb1 hD1 er q
    have ed := hD1.dr
    rw [er] at ed
    refine ⟨.ref d, rfl, d, .int r, rfl, get_r ed, .inl ⟨r, rfl, .int many, rfl, r, many, rfl, rfl, hm, ?_⟩⟩
    refine ⟨.ref d, rfl, d, .int r, rfl, get_r ed, .int many, rfl, r, many, rfl, rfl, ⟨hm, hm2⟩, .ref d, rfl, d, _, rfl, put_r ed, ?_⟩
    obtain ⟨ndw, ndc⟩ := hD1.dw
    have kd : Kp [d, w1] H1 (upd H1 d (.dK (drawKV w1 c (r / many) D1.turn))) := Kp.refl.set (by simp) fun u e => by rw [ed] at e; cases e; rfl
    exact ⟨.int (r % many), rfl, q _ (k1.trans (kd.mono fun b m => List.mem_append_right _ m)) (tb_draw tb1 kd ed hD1.wi) ⟨upd_same, by rw [upd_ne (Ne.symm ndw)]; exact hD1.wi, by rw [upd_ne (Ne.symm ndc)]; exact hD1.ce, hD1.lw, hD1.lc, hD1.wc⟩⟩
  have ed := hD.dr
  have ew := hD.wi
  have ec := hD.ce
  obtain ⟨ndw, ndc⟩ := hD.dw
  refine ⟨.ref d, rfl, d, .int D.rest, rfl, get_r ed, rfl, _, rfl, ite2 (fun hz => ?_) (fun hz => ?_)⟩
  · have hz : D.rest = 0 := by
      have := of_decide_eq_true hz
      injection this
    refine ⟨.ref d, rfl, d, .ref w1, rfl, get_w ed, Nat.zero_le _, fun l nl => ⟨_, _, .lst (sqL (by rw [upd_ne (ne_of_none ew nl)]; exact ew)) (dp_ints D.wide), .lst (sqL upd_same) .nil, shaped_ints D.wide, shaped_ints [], _, rfl, ?_⟩⟩
    rw [eqv_nil]
    have ed1 : (upd H l (.lst [])) d = some (.dK (drawKV w1 c D.rest D.turn)) := by rw [upd_ne (ne_of_none ed nl)]; exact ed
    have ew1 : (upd H l (.lst [])) w1 = some (.lst (D.wide.map V.int)) := by rw [upd_ne (ne_of_none ew nl)]; exact ew
    have ec1 : (upd H l (.lst [])) c = some (.lst (D.cells.map V.int)) := by rw [upd_ne (ne_of_none ec nl)]; exact ec
    have k1 : Kp ((GG K w mg Ts Tq fv lm).tabs ++ [d, w1]) H (upd H l (.lst [])) := Kp.new nl
    have tb1 : TbOk (GG K w mg Ts Tq fv lm) (upd H l (.lst [])) := tb.kp0 (Kp.new nl)
    have hD1 : DrE (upd H l (.lst [])) d w1 c D := ⟨ed1, ew1, ec1, hD.lw, hD.lc, hD.wc⟩
    cases hws : D.wide with
    | nil =>
      refine ite2 (fun y => Bool.noConfusion y) fun _ => ?_
      refine ⟨.ref d, rfl, mk_mix hD1 tb1 ht0 ht1 fun H2 k2 tb2 hD2 => ?_⟩
      have ed2 := hD2.dr
      refine ⟨.ref d, rfl, d, _, rfl, put_r ed2, ?_⟩
      have kd : Kp [d, w1] H2 (upd H2 d (.dK (drawKV w1 c (mixF D.cells (D.turn + 1)) (D.turn + 1)))) := Kp.refl.set (by simp) fun u e => by rw [ed2] at e; cases e; rfl
      refine fin _ { D with rest := mixF D.cells (D.turn + 1), turn := D.turn + 1 } (mixF D.cells (D.turn + 1)) ((k1.trans k2).trans (kd.mono fun b m => List.mem_append_right _ m)) (tb_draw tb2 kd ed2 hD2.wi) ⟨upd_same, by rw [upd_ne (Ne.symm ndw)]; exact hD2.wi, by rw [upd_ne (Ne.symm ndc)]; exact hD2.ce, hD.lw, hD.lc, hD.wc⟩ rfl fun H' k' tb' hD' => ?_
      have := q H' k' tb'
      unfold takeF restF at this
      rw [if_pos hz, hws] at this
      exact this (by rw [hws] at hD'; exact hD')
    | cons x0 wr =>
      rw [hws] at ew1
      have hlw := hD.lw
      rw [hws] at hlw
      refine ite2 (fun _ => ?_) fun y => absurd rfl y
      have sx : seqIndex? 0 ((x0 :: wr).map V.int).length = some 0 := by
        refine (ixN_seq (n := ((x0 :: wr).map V.int).length) (i := 0) (j := 0) ?_).1
        unfold ixN
        rw [if_pos (by decide), if_pos (by rw [List.length_map, List.length_cons]; omega)] <;> rfl
      refine ⟨.ref d, rfl, d, .ref w1, rfl, get_w ed1, .inl ⟨rfl, _, sqL ew1⟩, w1, _, 0, 0, .int x0, rfl, rfl, ew1, by decide, by decide, sx, rfl, ?_⟩
      have lwr : wr.length ≤ 1000 := by
        rw [List.length_cons] at hlw
        omega
      have ed2 : (upd (upd H l (.lst [])) w1 (.lst (((x0 :: wr).map V.int).eraseIdx 0))) d = some (.dK (drawKV w1 c D.rest D.turn)) := by rw [upd_ne ndw]; exact ed1
      refine ⟨.ref d, rfl, d, _, rfl, put_r ed2, ?_⟩
      have kw : Kp [d, w1] (upd H l (.lst [])) (upd (upd H l (.lst [])) w1 (.lst (((x0 :: wr).map V.int).eraseIdx 0))) := Kp.refl.set (by simp) fun u e => by rw [ew1] at e; cases e; rfl
      have kd : Kp [d, w1] (upd H l (.lst [])) (upd (upd (upd H l (.lst [])) w1 (.lst (((x0 :: wr).map V.int).eraseIdx 0))) d (.dK (drawKV w1 c x0 D.turn))) := kw.set (by simp) fun u e => by rw [ed2] at e; cases e; rfl
      refine fin _ { D with rest := x0, wide := wr } x0 (k1.trans (kd.mono fun b m => List.mem_append_right _ m)) (tb_draw tb1 kd ed1 ew1) ⟨upd_same, by rw [upd_ne (Ne.symm ndw), upd_same] <;> rfl, by rw [upd_ne (Ne.symm ndc), upd_ne hD.wc.symm]; exact ec1, lwr, hD.lc, hD.wc⟩ rfl fun H' k' tb' hD' => ?_
      have := q H' k' tb'
      unfold takeF restF at this
      rw [if_pos hz, hws] at this
      exact this hD'
  · have hz : D.rest ≠ 0 := fun z => hz (by rw [z]; rfl)
    refine fin H D D.rest .refl tb hD rfl fun H' k' tb' hD' => ?_
    have := q H' k' tb'
    unfold takeF restF at this
    rw [if_neg hz] at this
    exact this hD'
theorem ok_l_take {P : Program} {w : World} {K : PySem.W.Frag} {mg : Str → Option Value} {base : Heap} {Ts : List Addr} {Tq : List (Addr × Str)} {fv : Nat → V} (T : Bi mg) {a : Addr} {fd : FuncData} (D0 : DefAt K mg "_law_take" s_l_take a fd)
    {a_l_mixed : Addr} {d_l_mixed : FuncData} (D_l_mixed : DefAt K mg "_law_mixed" s_l_mixed a_l_mixed d_l_mixed) (G_l_mixed : ∀ (b : Heap) (lm : Lam), BX base b → FnOk P w K mg b CX0 2 a_l_mixed d_l_mixed ["draw"] (spF (GG K w mg Ts Tq fv lm) true false 0 f_l_mixed))
    : ∀ (b : Heap) (lm : Lam), BX base b → FnOk P w K mg b CX0 3 a fd ["draw", "many"] (spF (GG K w mg Ts Tq fv lm) true false 1 f_l_take) := fun b lm h => okk_l_take T D0 D_l_mixed (G_l_mixed b lm h)

abbrev s_l_pick : Stmt := topS 28
theorem sc_l_pick : FnScope ["draw", "some"] ["draw", "some"] (defScope s_l_pick) := ⟨rfl, rfl, rfl, by decide +kernel, rfl, by decide +kernel, by decide +kernel⟩
theorem bd_l_pick {K : PySem.W.Frag} {f : Addr} {fd : FuncData} (F : Fun K "_law_pick" "_law_pick" s_l_pick f fd) : Binds K fd ["draw", "some"] [] := F.binds (fun _ _ _ _ _ _ us hl => match us, hl with | [_, _], _ => rfl)
def b_l_pick : ST :=
    (Sv.ret (Ev.o2 gIx (Ev.var 1) (Ev.callD 0 1 f_l_take (Ev.cons (Ev.u1 lenD (Ev.var 1)) Ev.nil))))
def f_l_pick := runF false true false 2 b_l_pick
theorem ok_l_pick {P : Program} {w : World} {K : PySem.W.Frag} {mg : Str → Option Value} {base : Heap} {Ts : List Addr} {Tq : List (Addr × Str)} {fv : Nat → V} (T : Bi mg) {a : Addr} {fd : FuncData} (D0 : DefAt K mg "_law_pick" s_l_pick a fd)
    {a_l_take : Addr} {d_l_take : FuncData} (D_l_take : DefAt K mg "_law_take" s_l_take a_l_take d_l_take)
    (G_l_take : ∀ (b : Heap) (lm : Lam), BX base b → FnOk P w K mg b CX0 3 a_l_take d_l_take ["draw", "many"] (spF (GG K w mg Ts Tq fv lm) true false 1 f_l_take))
    : ∀ (base' : Heap) (lm : Lam), BX base base' → FnOk P w K mg base' CX0 4 a fd ["draw", "some"] (spF (GG K w mg Ts Tq fv lm) true false 1 f_l_pick) := by
  intro base' lm hb0
  have g_l_take := G_l_take _ lm hb0
  refine okF D0.F sc_l_pick rfl (by decide) (fun cdv A outer s H E U dd hr => ?_)
  have hu65 := room65 hr
  have hu64 := room64 hr
  have hu1 := room1 hr
  have hu0 := room0 hr
  exact (vss_one (vs_ret (ve_ix ⟨fun _ => rfl, fun _ => rfl, fun _ => rfl⟩ (fun _ => by exact hu1) (vb_var 1 (fun _ => pv 1)) (VE.b (ve_callD (va_cons (ve_cl1 (fun _ _ p => pe_callB call_lenU (by rfl) T.m_len (by decide +kernel) (pa_cons p pa_nil)) d_len (vb_var 1 (fun _ => pv 1))) va_nil) (fun j_ _ p => pe_call g_l_take (hr.mono (by decide)) (by rfl) D_l_take.g D_l_take.F.kp (bd_l_take D_l_take.F) .nil pass0 (pa_cons (pv 0) p)))) (fun _ _ => rfl))))
abbrev s_l_run : Stmt := topS 30
theorem sc_l_run : FnScope ["draw", "many", "menu", "k"] ["draw", "many"] (defScope s_l_run) := ⟨rfl, rfl, rfl, by decide +kernel, rfl, by decide +kernel, by decide +kernel⟩
theorem bd_l_run {K : PySem.W.Frag} {f : Addr} {fd : FuncData} (F : Fun K "_law_run" "_law_run" s_l_run f fd) : Binds K fd ["draw", "many"] [] := F.binds (fun _ _ _ _ _ _ us hl => match us, hl with | [_, _], _ => rfl)
def e_l_run_1 : EX :=
    (Ev.callD 0 1 f_l_take (Ev.cons (Ev.dat 2) Ev.nil))
def b_l_run : ST :=
    (Sv.seq (Sv.set 2 (Ev.callD 0 1 f_l_pick (Ev.cons (Ev.lst (Ev.cons (Ev.c (.int 2)) (Ev.cons (Ev.c (.int 3)) (Ev.cons (Ev.c (.int 5)) (Ev.cons (Ev.c (.int 64)) Ev.nil))))) Ev.nil)))
    (Sv.ret (Ev.lc [3] (Iv.range1 (Ev.callD 0 1 f_l_take (Ev.cons (Ev.dat 1) Ev.nil))) (Gv.name 3) Ev.yes e_l_run_1)))
def f_l_run := runF false true true 4 b_l_run
theorem ok_l_run {P : Program} {w : World} {K : PySem.W.Frag} {mg : Str → Option Value} {base : Heap} {Ts : List Addr} {Tq : List (Addr × Str)} {fv : Nat → V} (T : Bi mg) {a : Addr} {fd : FuncData} (D0 : DefAt K mg "_law_run" s_l_run a fd)
    {a_l_take : Addr} {d_l_take : FuncData} (D_l_take : DefAt K mg "_law_take" s_l_take a_l_take d_l_take)
    (G_l_take : ∀ (b : Heap) (lm : Lam), BX base b → FnOk P w K mg b CX0 3 a_l_take d_l_take ["draw", "many"] (spF (GG K w mg Ts Tq fv lm) true false 1 f_l_take))
    {a_l_pick : Addr} {d_l_pick : FuncData} (D_l_pick : DefAt K mg "_law_pick" s_l_pick a_l_pick d_l_pick)
    (G_l_pick : ∀ (b : Heap) (lm : Lam), BX base b → FnOk P w K mg b CX0 4 a_l_pick d_l_pick ["draw", "some"] (spF (GG K w mg Ts Tq fv lm) true false 1 f_l_pick))
    : ∀ (base' : Heap) (lm : Lam), BX base base' → FnOk P w K mg base' CX0 5 a fd ["draw", "many"] (spF (GG K w mg Ts Tq fv lm) true true 1 f_l_run) := by
  intro base' lm hb0
  have g_l_take := G_l_take _ lm hb0
  have g_l_pick := G_l_pick _ lm hb0
  refine okF D0.F sc_l_run rfl (by decide) (fun cdv A outer s H E U dd hr => ?_)
  have hu65 := room65 hr
  have hu64 := room64 hr
  have hu1 := room1 hr
  have hu0 := room0 hr
  exact (vss_cons (vs_set (i := 2) (x := "") (pos' := ⟨0, 0, 0, 0⟩) (fun _ _ p => ps_set (i := 2) sc_l_run.nd rfl (by first | exact Or.inl rfl | exact Or.inr rfl) p) (ve_callD (va_cons (VF.ve (vf_lst (va_cons ve_int (va_cons ve_int (va_cons ve_int (va_cons ve_int va_nil)))))) va_nil) (fun j_ _ p => pe_call g_l_pick (hr.mono (by decide)) (by rfl) D_l_pick.g D_l_pick.F.kp (bd_l_pick D_l_pick.F) .nil pass0 (pa_cons (pv 0) p))))
      (vss_one (vs_retF (vf_lc (vs := [3]) (vi_range1 (fun _ _ p => pi_range1 (by rfl) T.m_range (pa_cons p pa_nil)) (VE.b (ve_callD (va_cons (ve_var 1 (fun _ => pv 1)) va_nil) (fun j_ _ p => pe_call g_l_take (hr.mono (by decide)) (by rfl) D_l_take.g D_l_take.F.kp (bd_l_take D_l_take.F) .nil pass0 (pa_cons (pv 0) p))))) (vg_name (i := 3) (fun _ => pg_name (i := 3) (by exact sc_l_run.nd) (by rfl) (by first | exact Or.inl rfl | exact Or.inr rfl))) vts_nil (ve_callD (va_cons (ve_var 2 (fun _ => pv 2)) va_nil) (fun j_ _ p => pe_call g_l_take (hr.mono (by decide)) (by rfl) D_l_take.g D_l_take.F.kp (bd_l_take D_l_take.F) .nil pass0 (pa_cons (pv 0) p))) (by decide) (fun _ _ _ _ _ a b c d => pe_lc (own := [("k", 3)]) (by rfl) sc_l_run.nd a (blkOk_by (own := [("k", 3)]) (N := ["draw", "many", "menu", "k"]) (sc := defScope s_l_run) (by decide +kernel)) b c d)))))
abbrev s_l_of_parts : Stmt := topS 31
theorem sc_l_of_parts : FnScope ["draw", "old", "found", "lap", "at"] ["draw", "old"] (defScope s_l_of_parts) := ⟨rfl, rfl, rfl, by decide +kernel, rfl, by decide +kernel, by decide +kernel⟩
theorem bd_l_of_parts {K : PySem.W.Frag} {f : Addr} {fd : FuncData} (F : Fun K "_law_of_parts" "_law_of_parts" s_l_of_parts f fd) : Binds K fd ["draw", "old"] [] := F.binds (fun _ _ _ _ _ _ us hl => match us, hl with | [_, _], _ => rfl)
def w_l_of_parts_1 : ST :=
    (Sv.seq (Sv.set 4 (Ev.callD 0 1 f_l_take (Ev.cons (Ev.o2 gAdd (Ev.u1 lenD (Ev.var 1)) (Ev.c (.int 1))) Ev.nil)))
    (Sv.set 2 (Ev.o2 gAdd (Ev.o2 gAdd (Ev.var 2) (Ev.sl (Ev.var 1) (Ev.part (Ev.var 4)) (Ev.part (Ev.o2 gAdd (Ev.var 4) (Ev.callD 0 1 f_l_take (Ev.cons (Ev.c (.int 12)) Ev.nil)))))) (Ev.o2 gRep (Ev.lst (Ev.cons (Ev.callD 0 1 f_l_take (Ev.cons (Ev.c (.int 64)) Ev.nil)) Ev.nil)) (Ev.callD 0 1 f_l_take (Ev.cons (Ev.c (.int 2)) Ev.nil))))))
def b_l_of_parts : ST :=
    (Sv.seq (Sv.set 2 (Ev.lst Ev.nil))
    (Sv.seq (Sv.for_ (Iv.range1 (Ev.callD 0 1 f_l_take (Ev.cons (Ev.c (.int 6)) Ev.nil))) (Gv.name 3) w_l_of_parts_1)
    (Sv.ret (Ev.sl (Ev.var 2) Ev.noPart (Ev.part (Ev.c (.int 40)))))))
def f_l_of_parts := runF false true false 5 b_l_of_parts
theorem ok_l_of_parts {P : Program} {w : World} {K : PySem.W.Frag} {mg : Str → Option Value} {base : Heap} {Ts : List Addr} {Tq : List (Addr × Str)} {fv : Nat → V} (T : Bi mg) {a : Addr} {fd : FuncData} (D0 : DefAt K mg "_law_of_parts" s_l_of_parts a fd)
    {a_l_take : Addr} {d_l_take : FuncData} (D_l_take : DefAt K mg "_law_take" s_l_take a_l_take d_l_take)
    (G_l_take : ∀ (b : Heap) (lm : Lam), BX base b → FnOk P w K mg b CX0 3 a_l_take d_l_take ["draw", "many"] (spF (GG K w mg Ts Tq fv lm) true false 1 f_l_take))
    : ∀ (base' : Heap) (lm : Lam), BX base base' → FnOk P w K mg base' CX0 4 a fd ["draw", "old"] (spF (GG K w mg Ts Tq fv lm) true false 1 f_l_of_parts) := by
  intro base' lm hb0
  have g_l_take := G_l_take _ lm hb0
  refine okF D0.F sc_l_of_parts rfl (by decide) (fun cdv A outer s H E U dd hr => ?_)
  have hu65 := room65 hr
  have hu64 := room64 hr
  have hu1 := room1 hr
  have hu0 := room0 hr
  exact (vss_cons (vs_set (i := 2) (x := "") (pos' := ⟨0, 0, 0, 0⟩) (fun _ _ p => ps_set (i := 2) sc_l_of_parts.nd rfl (by first | exact Or.inl rfl | exact Or.inr rfl) p) (VF.ve (vf_lst va_nil)))
      (vss_cons (vs_for (vi_range1 (fun _ _ p => pi_range1 (by rfl) T.m_range (pa_cons p pa_nil)) (VE.b (ve_callD (va_cons ve_int va_nil) (fun j_ _ p => pe_call g_l_take (hr.mono (by decide)) (by rfl) D_l_take.g D_l_take.F.kp (bd_l_take D_l_take.F) .nil pass0 (pa_cons (pv 0) p))))) (vg_name (i := 3) (fun _ => pg_name (i := 3) (by exact sc_l_of_parts.nd) (by rfl) (by first | exact Or.inl rfl | exact Or.inr rfl))) (vss_cons (vs_set (i := 4) (x := "") (pos' := ⟨0, 0, 0, 0⟩) (fun _ _ p => ps_set (i := 4) sc_l_of_parts.nd rfl (by first | exact Or.inl rfl | exact Or.inr rfl) p) (ve_callD (va_cons (ve_add ⟨fun _ => rfl, fun _ => rfl, fun _ => rfl⟩ (VE.b (ve_cl1 (fun _ _ p => pe_callB call_lenU (by rfl) T.m_len (by decide +kernel) (pa_cons p pa_nil)) d_len (vb_var 1 (fun _ => pv 1)))) (VE.b ve_int)) va_nil) (fun j_ _ p => pe_call g_l_take (hr.mono (by decide)) (by rfl) D_l_take.g D_l_take.F.kp (bd_l_take D_l_take.F) .nil pass0 (pa_cons (pv 0) p))))
      (vss_one (vs_set (i := 2) (x := "") (pos' := ⟨0, 0, 0, 0⟩) (fun _ _ p => ps_set (i := 2) sc_l_of_parts.nd rfl (by first | exact Or.inl rfl | exact Or.inr rfl) p) (ve_add ⟨fun _ => rfl, fun _ => rfl, fun _ => rfl⟩ (VE.b (ve_add ⟨fun _ => rfl, fun _ => rfl, fun _ => rfl⟩ (vb_var 2 (fun _ => pv 2)) (VE.b (ve_sl (vb_var 1 (fun _ => pv 1)) (vo_some (vb_var 4 (fun _ => pv 4))) (vo_some (VE.b (ve_add ⟨fun _ => rfl, fun _ => rfl, fun _ => rfl⟩ (vb_var 4 (fun _ => pv 4)) (VE.b (ve_callD (va_cons ve_int va_nil) (fun j_ _ p => pe_call g_l_take (hr.mono (by decide)) (by rfl) D_l_take.g D_l_take.F.kp (bd_l_take D_l_take.F) .nil pass0 (pa_cons (pv 0) p))))))) (fun _ _ _ _ pa pl ph => pe_slice sl_U pa pl ph))))) (VE.b (VF.ve (vf_rep (VE.b (VF.ve (vf_lst (va_cons (ve_callD (va_cons ve_int va_nil) (fun j_ _ p => pe_call g_l_take (hr.mono (by decide)) (by rfl) D_l_take.g D_l_take.F.kp (bd_l_take D_l_take.F) .nil pass0 (pa_cons (pv 0) p))) va_nil)))) (VE.b (ve_callD (va_cons ve_int va_nil) (fun j_ _ p => pe_call g_l_take (hr.mono (by decide)) (by rfl) D_l_take.g D_l_take.F.kp (bd_l_take D_l_take.F) .nil pass0 (pa_cons (pv 0) p))))))))))) (fun _ _ _ _ p q r => ps_for PassesOwn.never rfl p q r))
      (vss_one (vs_ret (ve_sl (vb_var 2 (fun _ => pv 2)) vo_none (vo_some (VE.b ve_int)) (fun _ _ _ _ pa pl ph => pe_slice sl_U pa pl ph))))))
abbrev s_l_within : Stmt := topS 32
theorem sc_l_within : FnScope ["old", "run", "at"] ["old", "run"] (defScope s_l_within) := ⟨rfl, rfl, rfl, by decide +kernel, rfl, by decide +kernel, by decide +kernel⟩
theorem bd_l_within {K : PySem.W.Frag} {f : Addr} {fd : FuncData} (F : Fun K "_law_within" "_law_within" s_l_within f fd) : Binds K fd ["old", "run"] [] := F.binds (fun _ _ _ _ _ _ us hl => match us, hl with | [_, _], _ => rfl)
def t_l_within_1 : EB :=
    (Ev.tb (Ev.o2 gEq (Ev.sl (Ev.var 0) (Ev.part (Ev.var 2)) (Ev.part (Ev.o2 gAdd (Ev.var 2) (Ev.u1 lenD (Ev.var 1))))) (Ev.var 1)))
def b_l_within : ST :=
    (Sv.ret (Ev.o2 gNe (Ev.lc [2] (Iv.range1 (Ev.o2 gAdd (Ev.o2 (gI fun i j => some (.int (i - j))) (Ev.u1 lenD (Ev.var 0)) (Ev.u1 lenD (Ev.var 1))) (Ev.c (.int 1)))) (Gv.name 2) t_l_within_1 (Ev.dat 2)) (Ev.lst Ev.nil)))
def f_l_within := runF false false false 3 b_l_within
theorem ok_l_within {P : Program} {w : World} {K : PySem.W.Frag} {mg : Str → Option Value} {base : Heap} {Ts : List Addr} {Tq : List (Addr × Str)} {fv : Nat → V} (T : Bi mg) {a : Addr} {fd : FuncData} (D0 : DefAt K mg "_law_within" s_l_within a fd)
    : ∀ (base' : Heap) (lm : Lam), BX base base' → FnOk P w K mg base' CX0 2 a fd ["old", "run"] (spF (GG K w mg Ts Tq fv lm) false false 2 f_l_within) := by
  intro base' lm hb0
  refine okF D0.F sc_l_within rfl (by decide) (fun cdv A outer s H E U dd hr => ?_)
  have hu65 := room65 hr
  have hu64 := room64 hr
  have hu1 := room1 hr
  have hu0 := room0 hr
  exact (vss_one (vs_ret (ve_ne ⟨fun _ => rfl, fun _ => rfl, fun _ => rfl⟩ (fun _ => by exact hu64) (VE.b (VF.ve (vf_lc (vs := [2]) (vi_range1 (fun _ _ p => pi_range1 (by rfl) T.m_range (pa_cons p pa_nil)) (VE.b (ve_add ⟨fun _ => rfl, fun _ => rfl, fun _ => rfl⟩ (VE.b (ve_sub (VE.b (ve_cl1 (fun _ _ p => pe_callB call_lenU (by rfl) T.m_len (by decide +kernel) (pa_cons p pa_nil)) d_len (vb_var 0 (fun _ => pv 0)))) (VE.b (ve_cl1 (fun _ _ p => pe_callB call_lenU (by rfl) T.m_len (by decide +kernel) (pa_cons p pa_nil)) d_len (vb_var 1 (fun _ => pv 1)))))) (VE.b ve_int)))) (vg_name (i := 2) (fun _ => pg_name (i := 2) (by exact sc_l_within.nd) (by rfl) (by first | exact Or.inl rfl | exact Or.inr rfl))) (vts_one (vt_eq ⟨fun _ => rfl, fun _ => rfl, fun _ => rfl⟩ (fun _ => by exact hu64) (VE.b (ve_sl (vb_var 0 (fun _ => pv 0)) (vo_some (vb_var 2 (fun _ => pv 2))) (vo_some (VE.b (ve_add ⟨fun _ => rfl, fun _ => rfl, fun _ => rfl⟩ (vb_var 2 (fun _ => pv 2)) (VE.b (ve_cl1 (fun _ _ p => pe_callB call_lenU (by rfl) T.m_len (by decide +kernel) (pa_cons p pa_nil)) d_len (vb_var 1 (fun _ => pv 1))))))) (fun _ _ _ _ pa pl ph => pe_slice sl_U pa pl ph))) (vb_var 1 (fun _ => pv 1)))) (ve_var 2 (fun _ => pv 2)) (by decide) (fun _ _ _ _ _ a b c d => pe_lc (own := [("at", 2)]) (by rfl) sc_l_within.nd a (blkOk_by (own := [("at", 2)]) (N := ["old", "run", "at"]) (sc := defScope s_l_within) (by decide +kernel)) b c d)))) (VE.b (VF.ve (vf_lst va_nil))))))
abbrev s_l_made_by : Stmt := topS 33
theorem sc_l_made_by : FnScope ["old", "steps", "found", "step"] ["old", "steps"] (defScope s_l_made_by) := ⟨rfl, rfl, rfl, by decide +kernel, rfl, by decide +kernel, by decide +kernel⟩
theorem bd_l_made_by {K : PySem.W.Frag} {f : Addr} {fd : FuncData} (F : Fun K "_law_made_by" "_law_made_by" s_l_made_by f fd) : Binds K fd ["old", "steps"] [] := F.binds (fun _ _ _ _ _ _ us hl => match us, hl with | [_, _], _ => rfl)
def w_l_made_by_1 : ST :=
    (Sv.seq (Sv.ite (Ev.tor (Ev.tnot (Ev.tt (Ev.u1 (isiD "tuple") (Ev.var 3)))) (Ev.tor (Ev.tb (Ev.o2 gNotIn (Ev.o2 gIx (Ev.var 3) (Ev.c (.int 0))) (Ev.lst (Ev.cons (Ev.c (.str "cell")) (Ev.cons (Ev.c (.str "copy")) Ev.nil))))) (Ev.tb (Ev.o2 gNe (Ev.u1 lenD (Ev.var 3)) (Ev.ifx (Ev.tb (Ev.o2 gEq (Ev.o2 gIx (Ev.var 3) (Ev.c (.int 0))) (Ev.c (.str "cell")))) (Ev.c (.int 2)) (Ev.c (.int 3))))))) (Sv.ret (Ev.c .none)) Sv.skip)
    (Sv.seq (Sv.ite (Ev.tand (Ev.tb (Ev.o2 gEq (Ev.o2 gIx (Ev.var 3) (Ev.c (.int 0))) (Ev.c (.str "copy")))) (Ev.tnot (Ev.tb (Ev.ch3 cLe cLt cLe (Ev.c (.int 0)) (Ev.o2 gIx (Ev.var 3) (Ev.c (.int 1))) (Ev.o2 gAdd (Ev.o2 gIx (Ev.var 3) (Ev.c (.int 1))) (Ev.o2 gIx (Ev.var 3) (Ev.c (.int 2)))) (Ev.u1 lenD (Ev.var 0)))))) (Sv.ret (Ev.c .none)) Sv.skip)
    (Sv.set 2 (Ev.o2 gAdd (Ev.var 2) (Ev.ifx (Ev.tb (Ev.o2 gEq (Ev.o2 gIx (Ev.var 3) (Ev.c (.int 0))) (Ev.c (.str "cell")))) (Ev.lst (Ev.cons (Ev.o2 gIx (Ev.var 3) (Ev.c (.int 1))) Ev.nil)) (Ev.sl (Ev.var 0) (Ev.part (Ev.o2 gIx (Ev.var 3) (Ev.c (.int 1)))) (Ev.part (Ev.o2 gAdd (Ev.o2 gIx (Ev.var 3) (Ev.c (.int 1))) (Ev.o2 gIx (Ev.var 3) (Ev.c (.int 2)))))))))))
def b_l_made_by : ST :=
    (Sv.seq (Sv.set 2 (Ev.lst Ev.nil))
    (Sv.seq (Sv.for_ (Iv.items (Ev.dat 1)) (Gv.name 3) w_l_made_by_1)
    (Sv.ret (Ev.dat 2))))
def f_l_made_by := runF false false false 4 b_l_made_by
theorem ok_l_made_by {P : Program} {w : World} {K : PySem.W.Frag} {mg : Str → Option Value} {base : Heap} {Ts : List Addr} {Tq : List (Addr × Str)} {fv : Nat → V} (T : Bi mg) {a : Addr} {fd : FuncData} (D0 : DefAt K mg "_law_made_by" s_l_made_by a fd)
    : ∀ (base' : Heap) (lm : Lam), BX base base' → FnOk P w K mg base' CX0 2 a fd ["old", "steps"] (spF (GG K w mg Ts Tq fv lm) false false 2 f_l_made_by) := by
  intro base' lm hb0
  refine okF D0.F sc_l_made_by rfl (by decide) (fun cdv A outer s H E U dd hr => ?_)
  have hu65 := room65 hr
  have hu64 := room64 hr
  have hu1 := room1 hr
  have hu0 := room0 hr
  exact (vss_cons (vs_set (i := 2) (x := "") (pos' := ⟨0, 0, 0, 0⟩) (fun _ _ p => ps_set (i := 2) sc_l_made_by.nd rfl (by first | exact Or.inl rfl | exact Or.inr rfl) p) (VF.ve (vf_lst va_nil)))
      (vss_cons (vs_for (vi_items ⟨fun _ => rfl, fun _ => rfl, fun _ => rfl⟩ (ve_var 1 (fun _ => pv 1))) (vg_name (i := 3) (fun _ => pg_name (i := 3) (by exact sc_l_made_by.nd) (by rfl) (by first | exact Or.inl rfl | exact Or.inr rfl))) (vss_cons (vs_if (VW.vt (vw_or (vt_not (vt_truth ⟨fun _ => rfl, fun _ => rfl, fun _ => rfl⟩ (VE.b (ve_isi (T := "tuple") (fb := fun _ D => .stuck) ⟨fun _ => rfl, fun _ => rfl, fun _ => rfl⟩ (vb_var 3 (fun _ => pv 3)) (fun _ _ p => pe_callB call_isi (by rfl) T.m_isinstance (by decide +kernel) (pa_cons p (pa_cons (pe_bltn (v := .ty "tuple") (by rfl) T.m_tuple (by decide +kernel) rfl) pa_nil))))))) (vw_or (vt_nin ⟨fun _ => rfl, fun _ => rfl, fun _ => rfl⟩ (fun _ => by exact hu65) (VE.b (ve_ix ⟨fun _ => rfl, fun _ => rfl, fun _ => rfl⟩ (fun _ => by exact hu1) (vb_var 3 (fun _ => pv 3)) (VE.b ve_int) (fun _ _ => rfl))) (VE.b (VF.ve (vf_lst (va_cons ve_str (va_cons ve_str va_nil))))) (by rfl)) (vw_or1 (vt_ne ⟨fun _ => rfl, fun _ => rfl, fun _ => rfl⟩ (fun _ => by exact hu64) (VE.b (ve_cl1 (fun _ _ p => pe_callB call_lenU (by rfl) T.m_len (by decide +kernel) (pa_cons p pa_nil)) d_len (vb_var 3 (fun _ => pv 3)))) (VE.b (ve_ifx (vt_eq ⟨fun _ => rfl, fun _ => rfl, fun _ => rfl⟩ (fun _ => by exact hu64) (VE.b (ve_ix ⟨fun _ => rfl, fun _ => rfl, fun _ => rfl⟩ (fun _ => by exact hu1) (vb_var 3 (fun _ => pv 3)) (VE.b ve_int) (fun _ _ => rfl))) (VE.b ve_str)) ve_int ve_int))))))) (vss_one (vs_ret ve_non)) vss_nil)
      (vss_cons (vs_if (VW.vt (vw_and (vt_eq ⟨fun _ => rfl, fun _ => rfl, fun _ => rfl⟩ (fun _ => by exact hu64) (VE.b (ve_ix ⟨fun _ => rfl, fun _ => rfl, fun _ => rfl⟩ (fun _ => by exact hu1) (vb_var 3 (fun _ => pv 3)) (VE.b ve_int) (fun _ _ => rfl))) (VE.b ve_str)) (vw_and1 (vt_not (vt_ch3 (p := cLe) (p' := cLt) (p'' := cLe) (fun _ => op_le) (fun _ => op_lt) (fun _ => op_le) (VE.b ve_int) (VE.b (ve_ix ⟨fun _ => rfl, fun _ => rfl, fun _ => rfl⟩ (fun _ => by exact hu1) (vb_var 3 (fun _ => pv 3)) (VE.b ve_int) (fun _ _ => rfl))) (VE.b (ve_add ⟨fun _ => rfl, fun _ => rfl, fun _ => rfl⟩ (VE.b (ve_ix ⟨fun _ => rfl, fun _ => rfl, fun _ => rfl⟩ (fun _ => by exact hu1) (vb_var 3 (fun _ => pv 3)) (VE.b ve_int) (fun _ _ => rfl))) (VE.b (ve_ix ⟨fun _ => rfl, fun _ => rfl, fun _ => rfl⟩ (fun _ => by exact hu1) (vb_var 3 (fun _ => pv 3)) (VE.b ve_int) (fun _ _ => rfl))))) (VE.b (ve_cl1 (fun _ _ p => pe_callB call_lenU (by rfl) T.m_len (by decide +kernel) (pa_cons p pa_nil)) d_len (vb_var 0 (fun _ => pv 0)))) (by with_unfolding_all rfl)))))) (vss_one (vs_ret ve_non)) vss_nil)
      (vss_one (vs_set (i := 2) (x := "") (pos' := ⟨0, 0, 0, 0⟩) (fun _ _ p => ps_set (i := 2) sc_l_made_by.nd rfl (by first | exact Or.inl rfl | exact Or.inr rfl) p) (ve_add ⟨fun _ => rfl, fun _ => rfl, fun _ => rfl⟩ (vb_var 2 (fun _ => pv 2)) (VE.b (ve_ifx (vt_eq ⟨fun _ => rfl, fun _ => rfl, fun _ => rfl⟩ (fun _ => by exact hu64) (VE.b (ve_ix ⟨fun _ => rfl, fun _ => rfl, fun _ => rfl⟩ (fun _ => by exact hu1) (vb_var 3 (fun _ => pv 3)) (VE.b ve_int) (fun _ _ => rfl))) (VE.b ve_str)) (VF.ve (vf_lst (va_cons (ve_ix ⟨fun _ => rfl, fun _ => rfl, fun _ => rfl⟩ (fun _ => by exact hu1) (vb_var 3 (fun _ => pv 3)) (VE.b ve_int) (fun _ _ => rfl)) va_nil))) (ve_sl (vb_var 0 (fun _ => pv 0)) (vo_some (VE.b (ve_ix ⟨fun _ => rfl, fun _ => rfl, fun _ => rfl⟩ (fun _ => by exact hu1) (vb_var 3 (fun _ => pv 3)) (VE.b ve_int) (fun _ _ => rfl)))) (vo_some (VE.b (ve_add ⟨fun _ => rfl, fun _ => rfl, fun _ => rfl⟩ (VE.b (ve_ix ⟨fun _ => rfl, fun _ => rfl, fun _ => rfl⟩ (fun _ => by exact hu1) (vb_var 3 (fun _ => pv 3)) (VE.b ve_int) (fun _ _ => rfl))) (VE.b (ve_ix ⟨fun _ => rfl, fun _ => rfl, fun _ => rfl⟩ (fun _ => by exact hu1) (vb_var 3 (fun _ => pv 3)) (VE.b ve_int) (fun _ _ => rfl)))))) (fun _ _ _ _ pa pl ph => pe_slice sl_U pa pl ph))))))))) (fun _ _ _ _ p q r => ps_for PassesOwn.never rfl p q r))
      (vss_one (vs_ret (ve_var 2 (fun _ => pv 2))))))
abbrev s_l_caught : Stmt := topS 29
theorem sc_l_caught : FnScope ["work", "error", "caught"] ["work"] (defScope s_l_caught) := ⟨rfl, rfl, rfl, by decide +kernel, rfl, by decide +kernel, by decide +kernel⟩
theorem bd_l_caught {K : PySem.W.Frag} {f : Addr} {fd : FuncData} (F : Fun K "_law_caught" "_law_caught" s_l_caught f fd) : Binds K fd ["work"] [] := F.binds (fun _ _ _ _ _ _ us hl => match us, hl with | [_], _ => rfl)
section
variable {X : Cx}
theorem takes_len {W : WX} (tk : Takes X W) : Takes X (fun cls d σ H => σ.length = X.N.length → W cls d σ H) := fun u s' ⟨a, B, sI, pins, σ, H, cls, d, e, I, nb, up, sky, na, os, ag, w⟩ =>
  tk u s' ⟨a, B, sI, pins, σ, H, cls, d, e, I, nb, up, sky, na, os, ag, w I.len⟩
theorem set3 (σ : L2.St) (h : σ.length = 3) (x y z : Option V) : ((σ.set 2 x).set 1 y).set 2 z = [σ.getD 0 none, y, z] ∧ (σ.set 2 x)[2]? = some x := by
  match σ, h with
  | [a, b, c], _ => exact ⟨rfl, rfl⟩
theorem caught_gives {q : Str} {g CL : Addr} {cdg : Value} (hme : X.mg "LinkError" = some (.ref CL)) :
    LamX.GivesTo X ["work", "error", "caught"] "_law_caught" (defScope s_l_caught) g cdg (defBody s_l_caught) "work" q (TCaughtN X.K CL) := by
  intro f c' s H Q tl act hc h
  refine ⟨_, pss_cons (ps_set (i := 1) sc_l_caught.nd rfl (.inl rfl) pe_non) (pss_cons (ps_try_keep (X := (cxOf C8.CX0 X.prog X.w X.K X.mg X.base ["work", "error", "caught"] "_law_caught" (defScope s_l_caught) g cdg X.A X.stack s H C8.E0).nox) (i := 2) (n := "caught") (c := .ref CL)
      (tb := fun W D σ H => ∃ Ech : XK, (∀ cls d σ' H', Ech cls d H' → σ'.length = 3 → W cls d σ' H') ∧ σ[0]? = some (some (.ref f)) ∧ H c' = some (LamX.CodeO c' q) ∧ tl Ech H (fun v H' => D.nx σ H'))
      (ts := fun a cls d => tAsg (tVar 2) (gName 1)) (Wout := fun _ _ _ _ => False)
      rfl rfl rfl sc_l_caught.nd rfl rfl ⟨rfl, by decide, .inl hme⟩ LamX.takes0 (fun W pn xe tk _ => ?_) (fun a oe cls d pn _ _ => pss_one (ps_set (i := 1) sc_l_caught.nd rfl (.inl rfl) (pv 2)))) (pss_one (ps_ret (pv 1)))), ?_⟩
  · have key : ∀ p1 p2 p4 : Pos, PSs ((cxOf C8.CX0 X.prog X.w X.K X.mg X.base ["work", "error", "caught"] "_law_caught" (defScope s_l_caught) g cdg X.A X.stack s H C8.E0).tr pn xe) [.Expr (.Call (.Name "work" p1) [] [] p2) p4]
        (fun D σ H => ∃ Ech : XK, (∀ cls d σ' H', Ech cls d H' → σ'.length = 3 → W cls d σ' H') ∧ σ[0]? = some (some (.ref f)) ∧ H c' = some (LamX.CodeO c' q) ∧ tl Ech H (fun v H' => D.nx σ H')) := fun p1 p2 p4 => by
      refine ⟨fun pins s' σ H' D I h' => ?_⟩
      obtain ⟨Ech, hW, h1, h2, h3⟩ := h'
      have hp := act (fun cls d σ H => σ.length = 3 → W cls d σ H) pn xe Ech p1 p2 (takes_len tk) (fun cls d σ' H' e hl => hW cls d σ' H' e hl)
      have hq := pss_one (ps_expr (pos := p4) hp)
      exact hq.run pins s' σ H' D I ⟨h1, h2, h3⟩
    exact key _ _ _
  · refine ⟨fun cls d H' => PySem.W.exmOne X.K cls (.ref CL) = some true ∧ ∀ a, H' a = none → Q (.ref a) (upd H' a (ExV cls d a)), fun cls d σ' H' ⟨e1, e2⟩ hl => ⟨true, e1, fun _ a na => ?_, fun z => Bool.noConfusion z⟩, rfl, hc, ?_⟩
    · obtain ⟨e3, e4⟩ := set3 σ' hl (some (.ref a)) (some (.ref a)) none
      refine ⟨.ref a, e4, ?_⟩
      refine ⟨.ref a, ?_, e2 a na⟩
      rw [e3]
      rfl
    · refine Eq.mpr (congrArg (tl _ H) (funext fun v => funext fun H' => propext ⟨fun ⟨x, e, q⟩ => by cases e; exact q, fun q => ⟨V.non, rfl, q⟩⟩)) h
end

abbrev s_law : Stmt := topS 34
theorem sc_law : FnScope ["script", "draw", "turn", "old", "new", "one", "other", "steps", "some", "last", "rift", "odd", "errors", "error"] ["script"] (defScope s_law) := ⟨rfl, rfl, rfl, by decide +kernel, rfl, by decide +kernel, by decide +kernel⟩
theorem bd_law {K : PySem.W.Frag} {f : Addr} {fd : FuncData} (F : Fun K "law" "law" s_law f fd) : Binds K fd ["script"] [] := F.binds (fun _ _ _ _ _ _ us hl => match us, hl with | [_], _ => rfl)
abbrev s_l_begun : Stmt := topS 25
theorem sc_l_begun : FnScope ["script", "wide", "grain"] ["script"] (defScope s_l_begun) := ⟨rfl, rfl, rfl, by decide +kernel, rfl, by decide +kernel, by decide +kernel⟩
theorem bd_l_begun {K : PySem.W.Frag} {f : Addr} {fd : FuncData} (F : Fun K "_law_begun" "_law_begun" s_l_begun f fd) : Binds K fd ["script"] [] := F.binds (fun _ _ _ _ _ _ us hl => match us, hl with | [_], _ => rfl)
def q_law : Str := (envOfC "law" (defScope s_law) 0 0 .none).qual ++ "<lambda>"
noncomputable def t_law_1 : EB :=
    (Ev.tor (Ev.tnot (Ev.tt (Ev.u1 (gIsE errs subE "BadRun") (Ev.var 13)))) (Ev.tt (Ev.u1 (gIsE errs subE "BadPatch") (Ev.var 13))))
noncomputable def w_law_2 : ST :=
    (Sv.seq (Sv.ite (Ev.tor (Ev.tnot (Ev.tt (Ev.u1 (isiD "tuple") (Ev.var 10)))) (Ev.tor (Ev.tb (Ev.o2 gNe (Ev.u1 lenD (Ev.var 10)) (Ev.c (.int 2)))) (Ev.tnot (Ev.tb (Ev.ch3 cLe cLt cLt (Ev.var 9) (Ev.o2 gIx (Ev.var 10) (Ev.c (.int 0))) (Ev.o2 gIx (Ev.var 10) (Ev.c (.int 1))) (Ev.u1 lenD (Ev.var 4))))))) (Sv.ret (Ev.c (.bool false))) Sv.skip)
    (Sv.seq (Sv.ite (Ev.tt (Ev.call0 2 f_l_within (Ev.cons (Ev.dat 3) (Ev.cons (Ev.sl (Ev.var 4) (Ev.part (Ev.o2 gIx (Ev.var 10) (Ev.c (.int 0)))) (Ev.part (Ev.o2 gAdd (Ev.o2 gIx (Ev.var 10) (Ev.c (.int 1))) (Ev.c (.int 1))))) Ev.nil)))) (Sv.ret (Ev.c (.bool false))) Sv.skip)
    (Sv.set 9 (Ev.o2 gIx (Ev.var 10) (Ev.c (.int 1))))))
noncomputable def w_law_3 : ST :=
    (Sv.seq (Sv.set 3 (Ev.callD 1 1 f_l_run (Ev.cons (Ev.c (.int 41)) Ev.nil)))
    (Sv.seq (Sv.set 4 (Ev.ifx (Ev.tb (Ev.o2 gEq (Ev.callD 1 1 f_l_take (Ev.cons (Ev.c (.int 2)) Ev.nil)) (Ev.c (.int 0)))) (Ev.callD 1 1 f_l_run (Ev.cons (Ev.c (.int 30)) Ev.nil)) (Ev.callD 1 1 f_l_of_parts (Ev.cons (Ev.dat 3) Ev.nil))))
    (Sv.seq (Sv.par 5 6 (Ev.u1 gListU (Ev.var 3)) (Ev.u1 gListU (Ev.var 4)))
    (Sv.seq (Sv.par 7 8 (Ev.call0 2 f_patch (Ev.cons (Ev.dat 5) (Ev.cons (Ev.dat 6) Ev.nil))) (Ev.call0 2 f_rifts (Ev.cons (Ev.dat 5) (Ev.cons (Ev.dat 6) Ev.nil))))
    (Sv.seq (Sv.ite (Ev.tor (Ev.tnot (Ev.tt (Ev.u1 (isiD "tuple") (Ev.var 7)))) (Ev.tor (Ev.tnot (Ev.tt (Ev.u1 (isiD "tuple") (Ev.var 8)))) (Ev.tor (Ev.tb (Ev.o2 gNe (Ev.var 5) (Ev.var 3))) (Ev.tb (Ev.o2 gNe (Ev.var 6) (Ev.var 4)))))) (Sv.ret (Ev.c (.bool false))) Sv.skip)
    (Sv.seq (Sv.ite (Ev.tor (Ev.tb (Ev.o2 gNe (Ev.call0 2 f_l_made_by (Ev.cons (Ev.dat 3) (Ev.cons (Ev.dat 7) Ev.nil))) (Ev.var 4))) (Ev.tor (Ev.tb (Ev.o2 gNe (Ev.u1 gRepr (Ev.call0 2 f_patched (Ev.cons (Ev.dat 5) (Ev.cons (Ev.dat 7) Ev.nil)))) (Ev.u1 gRepr (Ev.u1 gTuple (Ev.var 4))))) (Ev.tb (Ev.o2 gNe (Ev.u1 lenD (Ev.var 7)) (Ev.o2 gAdd (Ev.u1 lenD (Ev.var 8)) (Ev.ifx (Ev.tb (Ev.o2 gNe (Ev.var 4) (Ev.lst Ev.nil))) (Ev.c (.int 1)) (Ev.c (.int 0)))))))) (Sv.ret (Ev.c (.bool false))) Sv.skip)
    (Sv.seq (Sv.set 9 (Ev.c (.int 0)))
    (Sv.seq (Sv.for_ (Iv.items (Ev.dat 8)) (Gv.name 10) w_law_2)
    (Sv.seq (Sv.ite (Ev.tor (Ev.tb (Ev.o2 gNotB (Ev.call0 3 f_is_rifts (Ev.cons (Ev.dat 5) (Ev.cons (Ev.dat 6) (Ev.cons (Ev.dat 8) Ev.nil)))) (Ev.c (.bool true)))) (Ev.tb (Ev.o2 gNe (Ev.u1 lenD (Ev.call0 2 f_patch (Ev.sw2 (Ev.cons (Ev.u1 gTuple (Ev.var 4)) (Ev.cons (Ev.u1 gTuple (Ev.var 3)) Ev.nil))))) (Ev.u1 lenD (Ev.var 7))))) (Sv.ret (Ev.c (.bool false))) Sv.skip)
    (Sv.seq (Sv.set 11 (Ev.callD 1 1 f_l_pick (Ev.cons (Ev.lst (Ev.cons (Ev.lst (Ev.cons (Ev.c (.int 64)) Ev.nil)) (Ev.cons (Ev.lst (Ev.cons (Ev.u1 gNeg (Ev.c (.int 1))) Ev.nil)) (Ev.cons (Ev.lst (Ev.cons (Ev.c (.bool true)) Ev.nil)) (Ev.cons (Ev.c (.str "ab")) (Ev.cons (Ev.c .none) (Ev.cons (Ev.c (.int 5)) (Ev.cons (Ev.lst (Ev.cons (Ev.c (.int 1)) (Ev.cons (Ev.c (.str "a")) Ev.nil))) (Ev.cons (Ev.lst (Ev.cons (Ev.lst (Ev.cons (Ev.c (.int 1)) Ev.nil)) Ev.nil)) Ev.nil))))))))) Ev.nil)))
    (Sv.seq (Sv.setO 12 (Ev.lst (Ev.cons (Ev.caught errs (Ev.callE 2 f_patch (Ev.cons (Ev.dat 11) (Ev.cons (Ev.dat 4) Ev.nil)))) Ev.nil)))
    (Sv.seq (Sv.append 12 (Ev.caught errs (Ev.callE 2 f_patch (Ev.cons (Ev.dat 3) (Ev.cons (Ev.dat 11) Ev.nil)))))
    (Sv.seq (Sv.append 12 (Ev.caught errs (Ev.callE 2 f_rifts (Ev.cons (Ev.dat 11) (Ev.cons (Ev.dat 11) Ev.nil)))))
    (Sv.seq (Sv.append 12 (Ev.caught errs (Ev.callE 2 f_rifts (Ev.cons (Ev.dat 3) (Ev.cons (Ev.dat 11) Ev.nil)))))
    (Sv.seq (Sv.append 12 (Ev.caught errs (Ev.callE 2 f_patched (Ev.cons (Ev.dat 11) (Ev.cons (Ev.c (.int 5)) Ev.nil)))))
    (Sv.seq (Sv.append 12 (Ev.caught errs (Ev.callE 3 f_is_rifts (Ev.cons (Ev.dat 3) (Ev.cons (Ev.dat 11) (Ev.cons (Ev.tup Ev.nil) Ev.nil))))))
    (Sv.frz 12 (Sv.ite (Ev.tb (Ev.o2 gNe (Ev.lc [13] (Iv.items (Ev.dat 12)) (Gv.name 13) t_law_1 (Ev.dat 13)) (Ev.lst Ev.nil))) (Sv.ret (Ev.c (.bool false))) Sv.skip))))))))))))))))))
noncomputable def b_law : ST :=
    (Sv.seq (Sv.for_ (Iv.range1 (Ev.o2 gAdd (Ev.c (.int 2)) (Ev.o2 (gI gMin2) (Ev.lenS 0) (Ev.c (.int 4))))) (Gv.name 2) w_law_3)
    (Sv.ret (Ev.c (.bool true))))
theorem ok_law {P : Program} {w : World} {K : PySem.W.Frag} {mg : Str → Option Value} {base : Heap} {Ts : List Addr} {Tq : List (Addr × Str)} {fv : Nat → V} {lm : Lam} (T : Bi mg) {a : Addr} {fd : FuncData} (D0 : DefAt K mg "law" s_law a fd)
    {a_l_begun : Addr} {d_l_begun : FuncData} (D_l_begun : DefAt K mg "_law_begun" s_l_begun a_l_begun d_l_begun)
    (G_l_begun : FnOk P w K mg base CX0 40 a_l_begun d_l_begun ["script"] (spBegun K))
    {a_is_rifts : Addr} {d_is_rifts : FuncData} (D_is_rifts : DefAt K mg "is_rifts" s_is_rifts a_is_rifts d_is_rifts)
    (G_is_rifts : ∀ (b : Heap) (lm : Lam), BX base b → FnOk P w K mg b (L2.CX P w) 10 a_is_rifts d_is_rifts ["old", "new", "thing"] (spF (GG K w mg Ts Tq fv lm) false false 3 f_is_rifts))
    {a_patched : Addr} {d_patched : FuncData} (D_patched : DefAt K mg "patched" s_patched a_patched d_patched)
    (G_patched : ∀ (b : Heap) (lm : Lam), BX base b → FnOk P w K mg b (L2.CX P w) 11 a_patched d_patched ["old", "patch"] (spF (GG K w mg Ts Tq fv lm) false false 2 f_patched))
    {a_rifts : Addr} {d_rifts : FuncData} (D_rifts : DefAt K mg "rifts" s_rifts a_rifts d_rifts)
    (G_rifts : ∀ (b : Heap) (lm : Lam), BX base b → FnOk P w K mg b (L2.CX P w) 10 a_rifts d_rifts ["old", "new"] (spF (GG K w mg Ts Tq fv lm) false false 2 f_rifts))
    {a_patch : Addr} {d_patch : FuncData} (D_patch : DefAt K mg "patch" s_patch a_patch d_patch)
    (G_patch : ∀ (b : Heap) (lm : Lam), BX base b → FnOk P w K mg b (L2.CX P w) 10 a_patch d_patch ["old", "new"] (spF (GG K w mg Ts Tq fv lm) false false 2 f_patch))
    {a_l_pick : Addr} {d_l_pick : FuncData} (D_l_pick : DefAt K mg "_law_pick" s_l_pick a_l_pick d_l_pick)
    (G_l_pick : ∀ (b : Heap) (lm : Lam), BX base b → FnOk P w K mg b CX0 4 a_l_pick d_l_pick ["draw", "some"] (spF (GG K w mg Ts Tq fv lm) true false 1 f_l_pick))
    {a_l_within : Addr} {d_l_within : FuncData} (D_l_within : DefAt K mg "_law_within" s_l_within a_l_within d_l_within)
    (G_l_within : ∀ (b : Heap) (lm : Lam), BX base b → FnOk P w K mg b CX0 2 a_l_within d_l_within ["old", "run"] (spF (GG K w mg Ts Tq fv lm) false false 2 f_l_within))
    {a_l_made_by : Addr} {d_l_made_by : FuncData} (D_l_made_by : DefAt K mg "_law_made_by" s_l_made_by a_l_made_by d_l_made_by)
    (G_l_made_by : ∀ (b : Heap) (lm : Lam), BX base b → FnOk P w K mg b CX0 2 a_l_made_by d_l_made_by ["old", "steps"] (spF (GG K w mg Ts Tq fv lm) false false 2 f_l_made_by))
    {a_l_take : Addr} {d_l_take : FuncData} (D_l_take : DefAt K mg "_law_take" s_l_take a_l_take d_l_take)
    (G_l_take : ∀ (b : Heap) (lm : Lam), BX base b → FnOk P w K mg b CX0 3 a_l_take d_l_take ["draw", "many"] (spF (GG K w mg Ts Tq fv lm) true false 1 f_l_take))
    {a_l_run : Addr} {d_l_run : FuncData} (D_l_run : DefAt K mg "_law_run" s_l_run a_l_run d_l_run)
    (G_l_run : ∀ (b : Heap) (lm : Lam), BX base b → FnOk P w K mg b CX0 5 a_l_run d_l_run ["draw", "many"] (spF (GG K w mg Ts Tq fv lm) true true 1 f_l_run))
    {a_l_of_parts : Addr} {d_l_of_parts : FuncData} (D_l_of_parts : DefAt K mg "_law_of_parts" s_l_of_parts a_l_of_parts d_l_of_parts)
    (G_l_of_parts : ∀ (b : Heap) (lm : Lam), BX base b → FnOk P w K mg b CX0 4 a_l_of_parts d_l_of_parts ["draw", "old"] (spF (GG K w mg Ts Tq fv lm) true false 1 f_l_of_parts))
    (e_BadPatch : EcAt K mg "BadPatch" (Nm.adr "BadPatch"))
    (e_BadRun : EcAt K mg "BadRun" (Nm.adr "BadRun"))
    (Ec : ErrC K errs subE)
    {a_l_caught : Addr} {d_l_caught : FuncData} (D_l_caught : DefAt K mg "_law_caught" s_l_caught a_l_caught d_l_caught)
    (gLE : mg "LinkError" = some (.ref (Nm.adr "LinkError")))
    {c0 P0 : Addr} (hc0 : fd.code = .ref c0) (LB0 : LamX.TabB base mg c0 P0) (hPQ : (P0, q_law) ∈ Tq) (huq : ∀ p ∈ Tq, p.1 = P0 → p.2 = q_law) (hnT : P0 ∉ Ts)
    : KbRp.RunG P w K mg base 60 a fd ["script"] (spLaw (GG K w mg Ts Tq fv lm) 14 b_law) := by
  obtain ⟨oc, od, kV, doc, pm, an, cdg, ctg, osl, rfl, lk, hcg⟩ := D_l_caught.F.ex
  have g_is_rifts := G_is_rifts base lm BX.refl
  have g_patched := G_patched base lm BX.refl
  have g_rifts := G_rifts base lm BX.refl
  have g_patch := G_patch base lm BX.refl
  have g_l_pick := G_l_pick base lm BX.refl
  have g_l_within := G_l_within base lm BX.refl
  have g_l_made_by := G_l_made_by base lm BX.refl
  have g_l_take := G_l_take base lm BX.refl
  have g_l_run := G_l_run base lm BX.refl
  have g_l_of_parts := G_l_of_parts base lm BX.refl
  refine okLaw D0.F hc0 sc_law (by decide) rfl rfl (fun A outer s H E hr => ps_set (i := 1) sc_law.nd rfl (by first | exact Or.inl rfl | exact Or.inr rfl) (pe_call G_l_begun (hr.mono (by decide)) (by rfl) D_l_begun.g D_l_begun.F.kp (bd_l_begun D_l_begun.F) .nil pass0 (pa_cons (pv 0) pa_nil))) (fun A outer s H E H1 dw ww cw hgd hr => ?_)
  have hu66 := room66 hr
  have hu65 := room65 hr
  have hu64 := room64 hr
  have hu1 := room1 hr
  have hu0 := room0 hr
  exact (vss_cons (vs_for (vi_range1 (fun _ _ p => pi_range1 (by rfl) T.m_range (pa_cons p pa_nil)) (VE.b (ve_add ⟨fun _ => rfl, fun _ => rfl, fun _ => rfl⟩ (VE.b ve_int) (VE.b (ve_cl2 (fun _ _ _ p q => pe_callB (call_min2 rfl) (by rfl) T.m_min (by decide +kernel) (pa_cons p (pa_cons q pa_nil))) d_min2 (VE.b (ve_lenS (i := 0) (fun _ => pe_callB call_lenU (by rfl) T.m_len (by decide +kernel) (pa_cons (pv 0) pa_nil)))) (VE.b ve_int)))))) (vg_name (i := 2) (fun _ => pg_name (i := 2) (by exact sc_law.nd) (by rfl) (by first | exact Or.inl rfl | exact Or.inr rfl))) (vss_cons (vs_set (i := 3) (x := "") (pos' := ⟨0, 0, 0, 0⟩) (fun _ _ p => ps_set (i := 3) sc_law.nd rfl (by first | exact Or.inl rfl | exact Or.inr rfl) p) (VF.ve (vf_callD (va_cons ve_int va_nil) (fun j_ _ p => pe_call g_l_run (hr.mono (by decide)) (by rfl) D_l_run.g D_l_run.F.kp (bd_l_run D_l_run.F) .nil pass0 (pa_cons (pv 1) p)))))
      (vss_cons (vs_set (i := 4) (x := "") (pos' := ⟨0, 0, 0, 0⟩) (fun _ _ p => ps_set (i := 4) sc_law.nd rfl (by first | exact Or.inl rfl | exact Or.inr rfl) p) (ve_ifx (vt_eq ⟨fun _ => rfl, fun _ => rfl, fun _ => rfl⟩ (fun _ => by exact hu64) (VE.b (ve_callD (va_cons ve_int va_nil) (fun j_ _ p => pe_call g_l_take (hr.mono (by decide)) (by rfl) D_l_take.g D_l_take.F.kp (bd_l_take D_l_take.F) .nil pass0 (pa_cons (pv 1) p)))) (VE.b ve_int)) (VF.ve (vf_callD (va_cons ve_int va_nil) (fun j_ _ p => pe_call g_l_run (hr.mono (by decide)) (by rfl) D_l_run.g D_l_run.F.kp (bd_l_run D_l_run.F) .nil pass0 (pa_cons (pv 1) p)))) (ve_callD (va_cons (ve_var 3 (fun _ => pv 3)) va_nil) (fun j_ _ p => pe_call g_l_of_parts (hr.mono (by decide)) (by rfl) D_l_of_parts.g D_l_of_parts.F.kp (bd_l_of_parts D_l_of_parts.F) .nil pass0 (pa_cons (pv 1) p)))))
      (vss_cons (vs_par (i := 5) (j := 6) (fun _ _ _ p q => ps_par (i := 5) (j := 6) rfl sc_law.nd rfl rfl (by decide) rfl rfl (pa_cons p (pa_cons q pa_nil)) (by rfl)) (VF.ve (vf_cl1 (t := id) (fun _ _ p => pe_callTy (call_list_of.or (call_listD (by rfl))) (by rfl) T.m_list (by decide +kernel) (pa_cons p pa_nil)) d_listU (vb_var 3 (fun _ => pv 3)))) (VF.ve (vf_cl1 (t := id) (fun _ _ p => pe_callTy (call_list_of.or (call_listD (by rfl))) (by rfl) T.m_list (by decide +kernel) (pa_cons p pa_nil)) d_listU (vb_var 4 (fun _ => pv 4)))))
      (vss_cons (vs_par (i := 7) (j := 8) (fun _ _ _ p q => ps_par (i := 7) (j := 8) rfl sc_law.nd rfl rfl (by decide) rfl rfl (pa_cons p (pa_cons q pa_nil)) (by rfl)) (ve_call0 (va_cons (ve_var 5 (fun _ => pv 5)) (va_cons (ve_var 6 (fun _ => pv 6)) va_nil)) (fun j_ _ p => pe_call g_patch (hr.mono (by decide)) (by rfl) D_patch.g D_patch.F.kp (bd_patch D_patch.F) .nil passE p)) (ve_call0 (va_cons (ve_var 5 (fun _ => pv 5)) (va_cons (ve_var 6 (fun _ => pv 6)) va_nil)) (fun j_ _ p => pe_call g_rifts (hr.mono (by decide)) (by rfl) D_rifts.g D_rifts.F.kp (bd_rifts D_rifts.F) .nil passE p)))
      (vss_cons (vs_if (VW.vt (vw_or (vt_not (vt_truth ⟨fun _ => rfl, fun _ => rfl, fun _ => rfl⟩ (VE.b (ve_isi (T := "tuple") (fb := fun _ D => .stuck) ⟨fun _ => rfl, fun _ => rfl, fun _ => rfl⟩ (vb_var 7 (fun _ => pv 7)) (fun _ _ p => pe_callB call_isi (by rfl) T.m_isinstance (by decide +kernel) (pa_cons p (pa_cons (pe_bltn (v := .ty "tuple") (by rfl) T.m_tuple (by decide +kernel) rfl) pa_nil))))))) (vw_or (vt_not (vt_truth ⟨fun _ => rfl, fun _ => rfl, fun _ => rfl⟩ (VE.b (ve_isi (T := "tuple") (fb := fun _ D => .stuck) ⟨fun _ => rfl, fun _ => rfl, fun _ => rfl⟩ (vb_var 8 (fun _ => pv 8)) (fun _ _ p => pe_callB call_isi (by rfl) T.m_isinstance (by decide +kernel) (pa_cons p (pa_cons (pe_bltn (v := .ty "tuple") (by rfl) T.m_tuple (by decide +kernel) rfl) pa_nil))))))) (vw_or (vt_ne ⟨fun _ => rfl, fun _ => rfl, fun _ => rfl⟩ (fun _ => by exact hu64) (vb_var 5 (fun _ => pv 5)) (vb_var 3 (fun _ => pv 3))) (vw_or1 (vt_ne ⟨fun _ => rfl, fun _ => rfl, fun _ => rfl⟩ (fun _ => by exact hu64) (vb_var 6 (fun _ => pv 6)) (vb_var 4 (fun _ => pv 4)))))))) (vss_one (vs_ret ve_bl)) vss_nil)
      (vss_cons (vs_if (VW.vt (vw_or (vt_ne ⟨fun _ => rfl, fun _ => rfl, fun _ => rfl⟩ (fun _ => by exact hu64) (VE.b (ve_call0 (va_cons (ve_var 3 (fun _ => pv 3)) (va_cons (ve_var 7 (fun _ => pv 7)) va_nil)) (fun j_ _ p => pe_call g_l_made_by (hr.mono (by decide)) (by rfl) D_l_made_by.g D_l_made_by.F.kp (bd_l_made_by D_l_made_by.F) .nil pass0 p))) (vb_var 4 (fun _ => pv 4))) (vw_or (vt_ne ⟨fun _ => rfl, fun _ => rfl, fun _ => rfl⟩ (fun _ => by exact hu64) (VE.b (ve_cl1 (fun _ _ p => pe_callB (KbRp.call_repr hgd hu66) (by rfl) T.m_repr (by decide +kernel) (pa_cons p pa_nil)) d_repr (VE.b (ve_call0 (va_cons (ve_var 5 (fun _ => pv 5)) (va_cons (ve_var 7 (fun _ => pv 7)) va_nil)) (fun j_ _ p => pe_call g_patched (hr.mono (by decide)) (by rfl) D_patched.g D_patched.F.kp (bd_patched D_patched.F) .nil passE p))))) (VE.b (ve_cl1 (fun _ _ p => pe_callB (KbRp.call_repr hgd hu66) (by rfl) T.m_repr (by decide +kernel) (pa_cons p pa_nil)) d_repr (VE.b (ve_cl1 (fun _ _ p => pe_callTy call_tuple_of (by rfl) T.m_tuple (by decide +kernel) (pa_cons p pa_nil)) d_tuple (vb_var 4 (fun _ => pv 4))))))) (vw_or1 (vt_ne ⟨fun _ => rfl, fun _ => rfl, fun _ => rfl⟩ (fun _ => by exact hu64) (VE.b (ve_cl1 (fun _ _ p => pe_callB call_lenU (by rfl) T.m_len (by decide +kernel) (pa_cons p pa_nil)) d_len (vb_var 7 (fun _ => pv 7)))) (VE.b (ve_add ⟨fun _ => rfl, fun _ => rfl, fun _ => rfl⟩ (VE.b (ve_cl1 (fun _ _ p => pe_callB call_lenU (by rfl) T.m_len (by decide +kernel) (pa_cons p pa_nil)) d_len (vb_var 8 (fun _ => pv 8)))) (VE.b (ve_ifx (vt_ne ⟨fun _ => rfl, fun _ => rfl, fun _ => rfl⟩ (fun _ => by exact hu64) (vb_var 4 (fun _ => pv 4)) (VE.b (VF.ve (vf_lst va_nil)))) ve_int ve_int))))))))) (vss_one (vs_ret ve_bl)) vss_nil)
      (vss_cons (vs_set (i := 9) (x := "") (pos' := ⟨0, 0, 0, 0⟩) (fun _ _ p => ps_set (i := 9) sc_law.nd rfl (by first | exact Or.inl rfl | exact Or.inr rfl) p) ve_int)
      (vss_cons (vs_for (vi_items ⟨fun _ => rfl, fun _ => rfl, fun _ => rfl⟩ (ve_var 8 (fun _ => pv 8))) (vg_name (i := 10) (fun _ => pg_name (i := 10) (by exact sc_law.nd) (by rfl) (by first | exact Or.inl rfl | exact Or.inr rfl))) (vss_cons (vs_if (VW.vt (vw_or (vt_not (vt_truth ⟨fun _ => rfl, fun _ => rfl, fun _ => rfl⟩ (VE.b (ve_isi (T := "tuple") (fb := fun _ D => .stuck) ⟨fun _ => rfl, fun _ => rfl, fun _ => rfl⟩ (vb_var 10 (fun _ => pv 10)) (fun _ _ p => pe_callB call_isi (by rfl) T.m_isinstance (by decide +kernel) (pa_cons p (pa_cons (pe_bltn (v := .ty "tuple") (by rfl) T.m_tuple (by decide +kernel) rfl) pa_nil))))))) (vw_or (vt_ne ⟨fun _ => rfl, fun _ => rfl, fun _ => rfl⟩ (fun _ => by exact hu64) (VE.b (ve_cl1 (fun _ _ p => pe_callB call_lenU (by rfl) T.m_len (by decide +kernel) (pa_cons p pa_nil)) d_len (vb_var 10 (fun _ => pv 10)))) (VE.b ve_int)) (vw_or1 (vt_not (vt_ch3 (p := cLe) (p' := cLt) (p'' := cLt) (fun _ => op_le) (fun _ => op_lt) (fun _ => op_lt) (vb_var 9 (fun _ => pv 9)) (VE.b (ve_ix ⟨fun _ => rfl, fun _ => rfl, fun _ => rfl⟩ (fun _ => by exact hu1) (vb_var 10 (fun _ => pv 10)) (VE.b ve_int) (fun _ _ => rfl))) (VE.b (ve_ix ⟨fun _ => rfl, fun _ => rfl, fun _ => rfl⟩ (fun _ => by exact hu1) (vb_var 10 (fun _ => pv 10)) (VE.b ve_int) (fun _ _ => rfl))) (VE.b (ve_cl1 (fun _ _ p => pe_callB call_lenU (by rfl) T.m_len (by decide +kernel) (pa_cons p pa_nil)) d_len (vb_var 4 (fun _ => pv 4)))) (by with_unfolding_all rfl))))))) (vss_one (vs_ret ve_bl)) vss_nil)
      (vss_cons (vs_if (vt_truth ⟨fun _ => rfl, fun _ => rfl, fun _ => rfl⟩ (VE.b (ve_call0 (va_cons (ve_var 3 (fun _ => pv 3)) (va_cons (ve_sl (vb_var 4 (fun _ => pv 4)) (vo_some (VE.b (ve_ix ⟨fun _ => rfl, fun _ => rfl, fun _ => rfl⟩ (fun _ => by exact hu1) (vb_var 10 (fun _ => pv 10)) (VE.b ve_int) (fun _ _ => rfl)))) (vo_some (VE.b (ve_add ⟨fun _ => rfl, fun _ => rfl, fun _ => rfl⟩ (VE.b (ve_ix ⟨fun _ => rfl, fun _ => rfl, fun _ => rfl⟩ (fun _ => by exact hu1) (vb_var 10 (fun _ => pv 10)) (VE.b ve_int) (fun _ _ => rfl))) (VE.b ve_int)))) (fun _ _ _ _ pa pl ph => pe_slice sl_U pa pl ph)) va_nil)) (fun j_ _ p => pe_call g_l_within (hr.mono (by decide)) (by rfl) D_l_within.g D_l_within.F.kp (bd_l_within D_l_within.F) .nil pass0 p)))) (vss_one (vs_ret ve_bl)) vss_nil)
      (vss_one (vs_set (i := 9) (x := "") (pos' := ⟨0, 0, 0, 0⟩) (fun _ _ p => ps_set (i := 9) sc_law.nd rfl (by first | exact Or.inl rfl | exact Or.inr rfl) p) (ve_ix ⟨fun _ => rfl, fun _ => rfl, fun _ => rfl⟩ (fun _ => by exact hu1) (vb_var 10 (fun _ => pv 10)) (VE.b ve_int) (fun _ _ => rfl)))))) (fun _ _ _ _ p q r => ps_for PassesOwn.never rfl p q r))
      (vss_cons (vs_if (VW.vt (vw_or (vt_notB (VE.b (ve_call0 (va_cons (ve_var 5 (fun _ => pv 5)) (va_cons (ve_var 6 (fun _ => pv 6)) (va_cons (ve_var 8 (fun _ => pv 8)) va_nil))) (fun j_ _ p => pe_call g_is_rifts (hr.mono (by decide)) (by rfl) D_is_rifts.g D_is_rifts.F.kp (bd_is_rifts D_is_rifts.F) .nil passE p))) (VE.b ve_bl)) (vw_or1 (vt_ne ⟨fun _ => rfl, fun _ => rfl, fun _ => rfl⟩ (fun _ => by exact hu64) (VE.b (ve_cl1 (fun _ _ p => pe_callB call_lenU (by rfl) T.m_len (by decide +kernel) (pa_cons p pa_nil)) d_len (VE.b (ve_callK2s (vk_cons (ve_cl1 (fun _ _ p => pe_callTy call_tuple_of (by rfl) T.m_tuple (by decide +kernel) (pa_cons p pa_nil)) d_tuple (vb_var 4 (fun _ => pv 4))) (vk_cons (ve_cl1 (fun _ _ p => pe_callTy call_tuple_of (by rfl) T.m_tuple (by decide +kernel) (pa_cons p pa_nil)) d_tuple (vb_var 3 (fun _ => pv 3))) vk_nil)) (fun j_ _ p => pe_callN0 g_patch (hr.mono (by decide)) (by rfl) D_patch.g D_patch.F.kp (kbn2s D_patch.F (fun _ _ _ _ _ _ _ _ => rfl)) passE p))))) (VE.b (ve_cl1 (fun _ _ p => pe_callB call_lenU (by rfl) T.m_len (by decide +kernel) (pa_cons p pa_nil)) d_len (vb_var 7 (fun _ => pv 7)))))))) (vss_one (vs_ret ve_bl)) vss_nil)
      (vss_cons (vs_set (i := 11) (x := "") (pos' := ⟨0, 0, 0, 0⟩) (fun _ _ p => ps_set (i := 11) sc_law.nd rfl (by first | exact Or.inl rfl | exact Or.inr rfl) p) (ve_callD (va_cons (VF.ve (vf_lst (va_cons (VF.ve (vf_lst (va_cons ve_int va_nil))) (va_cons (VF.ve (vf_lst (va_cons (ve_neg (VE.b ve_int)) va_nil))) (va_cons (VF.ve (vf_lst (va_cons ve_bl va_nil))) (va_cons ve_str (va_cons ve_non (va_cons ve_int (va_cons (VF.ve (vf_lst (va_cons ve_int (va_cons ve_str va_nil)))) (va_cons (VF.ve (vf_lst (va_cons (VF.ve (vf_lst (va_cons ve_int va_nil))) va_nil))) va_nil)))))))))) va_nil) (fun j_ _ p => pe_call g_l_pick (hr.mono (by decide)) (by rfl) D_l_pick.g D_l_pick.F.kp (bd_l_pick D_l_pick.F) .nil pass0 (pa_cons (pv 1) p))))
      (vss_cons (vs_setO (i := 12) (fun _ _ p => ps_set (i := 12) sc_law.nd rfl (by first | exact Or.inl rfl | exact Or.inr rfl) p) (vf_lst (va_cons (ve_caught (k := 45) (P := P0) (q := q_law) Ec hPQ huq hnT (fun U H0 E' => (ve_callE (va_cons (ve_var 11 (fun _ => pv 11)) (va_cons (ve_var 4 (fun _ => pv 4)) va_nil)) (fun j_ _ p => pe_call g_patch (j_.hr.mono (by decide)) (by rfl) D_patch.g D_patch.F.kp (bd_patch D_patch.F) .nil (passes_call (takes_of rfl rfl rfl rfl) (fun _ _ _ _ h => h)) p))) (fun _ t hb => pe_lamcall1 (x := "_law_caught") (a := "work") (k := 45) (t := t) (by rfl) D_l_caught.g D_l_caught.F.kp lk hcg (bd_l_caught D_l_caught.F) sc_l_caught rfl (.inl rfl) (caught_gives gLE) LB0 rfl (hr.mono (by decide)) (LamX.lamS_by (by rfl)) (by rfl) (fun _ _ _ _ _ => rfl) (fun A outer s H E f c' hr' => hb A outer s H E f c' hr'))) va_nil)))
      (vss_cons (vs_append (i := 12) (ve_caught (k := 45) (P := P0) (q := q_law) Ec hPQ huq hnT (fun U H0 E' => (ve_callE (va_cons (ve_var 3 (fun _ => pv 3)) (va_cons (ve_var 11 (fun _ => pv 11)) va_nil)) (fun j_ _ p => pe_call g_patch (j_.hr.mono (by decide)) (by rfl) D_patch.g D_patch.F.kp (bd_patch D_patch.F) .nil (passes_call (takes_of rfl rfl rfl rfl) (fun _ _ _ _ h => h)) p))) (fun _ t hb => pe_lamcall1 (x := "_law_caught") (a := "work") (k := 45) (t := t) (by rfl) D_l_caught.g D_l_caught.F.kp lk hcg (bd_l_caught D_l_caught.F) sc_l_caught rfl (.inl rfl) (caught_gives gLE) LB0 rfl (hr.mono (by decide)) (LamX.lamS_by (by rfl)) (by rfl) (fun _ _ _ _ _ => rfl) (fun A outer s H E f c' hr' => hb A outer s H E f c' hr'))) (fun _ _ p => ps_expr (pe_bm PySem.F.plainAttrs_list PySem.F.slot_list_append PySem.F.type_list_append mt_append (pv 12) (pa_cons p pa_nil))))
      (vss_cons (vs_append (i := 12) (ve_caught (k := 45) (P := P0) (q := q_law) Ec hPQ huq hnT (fun U H0 E' => (ve_callE (va_cons (ve_var 11 (fun _ => pv 11)) (va_cons (ve_var 11 (fun _ => pv 11)) va_nil)) (fun j_ _ p => pe_call g_rifts (j_.hr.mono (by decide)) (by rfl) D_rifts.g D_rifts.F.kp (bd_rifts D_rifts.F) .nil (passes_call (takes_of rfl rfl rfl rfl) (fun _ _ _ _ h => h)) p))) (fun _ t hb => pe_lamcall1 (x := "_law_caught") (a := "work") (k := 45) (t := t) (by rfl) D_l_caught.g D_l_caught.F.kp lk hcg (bd_l_caught D_l_caught.F) sc_l_caught rfl (.inl rfl) (caught_gives gLE) LB0 rfl (hr.mono (by decide)) (LamX.lamS_by (by rfl)) (by rfl) (fun _ _ _ _ _ => rfl) (fun A outer s H E f c' hr' => hb A outer s H E f c' hr'))) (fun _ _ p => ps_expr (pe_bm PySem.F.plainAttrs_list PySem.F.slot_list_append PySem.F.type_list_append mt_append (pv 12) (pa_cons p pa_nil))))
      (vss_cons (vs_append (i := 12) (ve_caught (k := 45) (P := P0) (q := q_law) Ec hPQ huq hnT (fun U H0 E' => (ve_callE (va_cons (ve_var 3 (fun _ => pv 3)) (va_cons (ve_var 11 (fun _ => pv 11)) va_nil)) (fun j_ _ p => pe_call g_rifts (j_.hr.mono (by decide)) (by rfl) D_rifts.g D_rifts.F.kp (bd_rifts D_rifts.F) .nil (passes_call (takes_of rfl rfl rfl rfl) (fun _ _ _ _ h => h)) p))) (fun _ t hb => pe_lamcall1 (x := "_law_caught") (a := "work") (k := 45) (t := t) (by rfl) D_l_caught.g D_l_caught.F.kp lk hcg (bd_l_caught D_l_caught.F) sc_l_caught rfl (.inl rfl) (caught_gives gLE) LB0 rfl (hr.mono (by decide)) (LamX.lamS_by (by rfl)) (by rfl) (fun _ _ _ _ _ => rfl) (fun A outer s H E f c' hr' => hb A outer s H E f c' hr'))) (fun _ _ p => ps_expr (pe_bm PySem.F.plainAttrs_list PySem.F.slot_list_append PySem.F.type_list_append mt_append (pv 12) (pa_cons p pa_nil))))
      (vss_cons (vs_append (i := 12) (ve_caught (k := 45) (P := P0) (q := q_law) Ec hPQ huq hnT (fun U H0 E' => (ve_callE (va_cons (ve_var 11 (fun _ => pv 11)) (va_cons ve_int va_nil)) (fun j_ _ p => pe_call g_patched (j_.hr.mono (by decide)) (by rfl) D_patched.g D_patched.F.kp (bd_patched D_patched.F) .nil (passes_call (takes_of rfl rfl rfl rfl) (fun _ _ _ _ h => h)) p))) (fun _ t hb => pe_lamcall1 (x := "_law_caught") (a := "work") (k := 45) (t := t) (by rfl) D_l_caught.g D_l_caught.F.kp lk hcg (bd_l_caught D_l_caught.F) sc_l_caught rfl (.inl rfl) (caught_gives gLE) LB0 rfl (hr.mono (by decide)) (LamX.lamS_by (by rfl)) (by rfl) (fun _ _ _ _ _ => rfl) (fun A outer s H E f c' hr' => hb A outer s H E f c' hr'))) (fun _ _ p => ps_expr (pe_bm PySem.F.plainAttrs_list PySem.F.slot_list_append PySem.F.type_list_append mt_append (pv 12) (pa_cons p pa_nil))))
      (vss_cons (vs_append (i := 12) (ve_caught (k := 45) (P := P0) (q := q_law) Ec hPQ huq hnT (fun U H0 E' => (ve_callE (va_cons (ve_var 3 (fun _ => pv 3)) (va_cons (ve_var 11 (fun _ => pv 11)) (va_cons (ve_tup va_nil) va_nil))) (fun j_ _ p => pe_call g_is_rifts (j_.hr.mono (by decide)) (by rfl) D_is_rifts.g D_is_rifts.F.kp (bd_is_rifts D_is_rifts.F) .nil (passes_call (takes_of rfl rfl rfl rfl) (fun _ _ _ _ h => h)) p))) (fun _ t hb => pe_lamcall1 (x := "_law_caught") (a := "work") (k := 45) (t := t) (by rfl) D_l_caught.g D_l_caught.F.kp lk hcg (bd_l_caught D_l_caught.F) sc_l_caught rfl (.inl rfl) (caught_gives gLE) LB0 rfl (hr.mono (by decide)) (LamX.lamS_by (by rfl)) (by rfl) (fun _ _ _ _ _ => rfl) (fun A outer s H E f c' hr' => hb A outer s H E f c' hr'))) (fun _ _ p => ps_expr (pe_bm PySem.F.plainAttrs_list PySem.F.slot_list_append PySem.F.type_list_append mt_append (pv 12) (pa_cons p pa_nil))))
      (vss_one (vs_frz (i := 12) (vs_if (vt_ne ⟨fun _ => rfl, fun _ => rfl, fun _ => rfl⟩ (fun _ => by exact hu64) (VE.b (VF.ve (vf_lc (vs := [13]) (vi_items ⟨fun _ => rfl, fun _ => rfl, fun _ => rfl⟩ (ve_var 12 (fun _ => pv 12))) (vg_name (i := 13) (fun _ => pg_name (i := 13) (by exact sc_law.nd) (by rfl) (by first | exact Or.inl rfl | exact Or.inr rfl))) (vts_one (VW.vt (vw_or (vt_not (vt_truth ⟨fun _ => rfl, fun _ => rfl, fun _ => rfl⟩ (VE.b (ve_isE (x := "BadRun") Ec (by decide) (vb_var 13 (fun _ => pv 13)) (fun _ _ p => pe_callB call_isE (by rfl) T.m_isinstance (by decide +kernel) (pa_cons p (pa_cons (pe_glob (v := .ref (Nm.adr "BadRun")) (by rfl) e_BadRun.g rfl) pa_nil))))))) (vw_or1 (vt_truth ⟨fun _ => rfl, fun _ => rfl, fun _ => rfl⟩ (VE.b (ve_isE (x := "BadPatch") Ec (by decide) (vb_var 13 (fun _ => pv 13)) (fun _ _ p => pe_callB call_isE (by rfl) T.m_isinstance (by decide +kernel) (pa_cons p (pa_cons (pe_glob (v := .ref (Nm.adr "BadPatch")) (by rfl) e_BadPatch.g rfl) pa_nil)))))))))) (ve_var 13 (fun _ => pv 13)) (by decide) (fun _ _ _ _ _ a b c d => pe_lc (own := [("error", 13)]) (by rfl) sc_law.nd a (blkOk_by (own := [("error", 13)]) (N := ["script", "draw", "turn", "old", "new", "one", "other", "steps", "some", "last", "rift", "odd", "errors", "error"]) (sc := defScope s_law) (by decide +kernel)) b c d)))) (VE.b (VF.ve (vf_lst va_nil)))) (vss_one (vs_ret ve_bl)) vss_nil))))))))))))))))))) (fun _ _ _ _ p q r => ps_for PassesOwn.never rfl p q r))
      (vss_one (vs_ret ve_bl)))
theorem ok_l_begun {P : Program} {w : World} {K : PySem.W.Frag} {mg : Str → Option Value} {base : Heap} (T : Bi mg) {f : Addr} {fd : FuncData} {k : Nat} (D0 : DefAt K mg "_law_begun" s_l_begun f fd) : FnOk P w K mg base CX0 (k + 1) f fd ["script"] (spBegun K) := by
  refine D0.F.ok sc_l_begun (fun vs H Q E h => ?_) (fun cdv A outer s H vs Q E hr h => ?_)
  · obtain ⟨_, _, rfl, _⟩ := h
    rfl
  · obtain ⟨a, ns, rfl, hS, hlen, q⟩ := h
    refine ⟨_, (pss_cons (ps_setLc (i := 1) (own := [("grain", 2)]) (g := gName 2) (by rfl) sc_l_begun.nd rfl rfl (sw_true rfl rfl rfl (by decide +kernel)) (pi_list (pv 0)) (blkOk_by (own := [("grain", 2)]) (N := ["script", "wide", "grain"]) (sc := defScope s_l_begun) (by decide +kernel)) (fun _ _ _ _ _ => pg_name (i := 2) sc_l_begun.nd rfl (.inl rfl))
          (fun _ _ _ _ _ => pts_one (pt_cmpR op_ge (pe_callB call_abs (by rfl) T.m_abs (by decide +kernel) (pa_cons (pv 2) pa_nil)) (pe_op op_pow pe_int pe_int) (nomark _))) (fun _ _ _ _ _ => pe_op op_sub (pe_callB call_abs (by rfl) T.m_abs (by decide +kernel) (pa_cons (pv 2) pa_nil)) (pe_op op_pow pe_int pe_int)))
      (pss_one (ps_ret (pe_disp (pps_cons pe_str (pv 1) (pps_cons pe_str (pe_lc (own := [("grain", 2)]) (g := gName 2) (by rfl) sc_l_begun.nd (pi_list (pv 0)) (blkOk_by (own := [("grain", 2)]) (N := ["script", "wide", "grain"]) (sc := defScope s_l_begun) (by decide +kernel)) (fun _ _ _ _ _ => pg_name (i := 2) sc_l_begun.nd rfl (.inl rfl)) (fun _ _ _ _ _ => pts_nil)
          (fun _ _ _ _ _ => pe_op op_mod (pe_callTy call_int1 (by rfl) T.m_int (by decide +kernel) (pa_cons (pe_callB call_abs (by rfl) T.m_abs (by decide +kernel) (pa_cons (pv 2) pa_nil)) pa_nil)) pe_int))
        (pps_cons pe_str pe_int (pps_cons pe_str pe_int pps_nil)))) (by rfl) (by rfl) (by simp) (by decide))))), ?_⟩
    have lenN : (ns.map V.int).length = ns.length := List.length_map _
    have kpS : ∀ {H1 : Hp}, Kp [] H H1 → SqL K H1 a (ns.map V.int) := fun k => sqL_kp0 k hS
    refine ⟨.ref a, rfl, a, rfl, ⟨_, hS⟩, fun l nl => ?_⟩
    refine lc_by0 (J := Itl K a) (vs := [2]) (D := l) (H0 := upd H l (.lst [])) (n := ns.length) (fun j H' => Kp [] H H' ∧ ∃ ks : List Int, H' l = some (.lst (ks.map V.int)) ∧ ks.length ≤ j) ⟨Kp.new nl, [], upd_same, Nat.zero_le _⟩ ?_ ?_
    · rintro j H1 hj ⟨k1, ks, el, hk⟩
      obtain ⟨g, hg⟩ : ∃ g, ns[j]? = some g := ⟨_, List.getElem?_eq_getElem hj⟩
      have gV : (ns.map V.int)[j]? = some (.int g) := by rw [List.getElem?_map, hg] <;> rfl
      refine ⟨⟨_, _, kpS k1, gV⟩, ?_⟩
      rintro v H2 ⟨rfl, fv⟩
      have ev : v = .int g := Option.some.inj ((fv _ (kpS k1)).symm.trans gV)
      subst ev
      refine ⟨rfl, .int g, rfl, g, rfl, ?_⟩
      refine ⟨10, 18, rfl, rfl, ⟨by decide, by decide, by decide⟩, _, _, rfl, rfl, _, rfl, ite2 (fun _ => ?_) (fun _ => ?_)⟩
      · refine ⟨.int g, rfl, g, rfl, 10, 18, rfl, rfl, ⟨by decide, by decide, by decide⟩, _, _, rfl, rfl, _, el, ?_, kp_put k1 nl, ks ++ [(if g < 0 then -g else g) - 10 ^ (18 : Int).toNat], ?_, ?_⟩
        · rw [List.length_map]
          exact small1000 (by omega)
        · rw [upd_same, List.map_append] <;> rfl
        · rw [List.length_append]
          show ks.length + 1 ≤ j + 1
          omega
      · exact ⟨k1, ks, el, by omega⟩
    · rintro H1 ⟨k1, ks, el, hk⟩
      refine ⟨⟨_, kpS k1, by rw [lenN]; exact Nat.le_refl _⟩, ?_⟩
      unfold tRet tDisp
      intro p np
      have k2 : Kp [] H1 (upd H1 p (.dK [])) := Kp.new np
      have np0 : H p = none := kp_none k1 np
      have kH2 := k1.trans k2
      have ep : (upd H1 p (.dK [])) p = some (.dK []) := upd_same
      have el2 := k2 l _ el (.inr List.not_mem_nil)
      generalize (upd H1 p (.dK [])) = H2 at k2 kH2 ep el2 ⊢
      refine ⟨.ref l, rfl, .ref a, rfl, a, rfl, ⟨_, kpS kH2⟩, fun l3 nl3 => ?_⟩
      refine lc_by0 (J := Itl K a) (vs := [2]) (D := l3) (H0 := upd H2 l3 (.lst [])) (n := ns.length) (fun j H' => Kp [] H2 H' ∧ ∃ ks : List Int, H' l3 = some (.lst (ks.map V.int)) ∧ ks.length ≤ j) ⟨Kp.new nl3, [], upd_same, Nat.zero_le _⟩ ?_ ?_
      · rintro j H3 hj ⟨k3, ks3, el3, hk3⟩
        obtain ⟨g, hg⟩ : ∃ g, ns[j]? = some g := ⟨_, List.getElem?_eq_getElem hj⟩
        have gV : (ns.map V.int)[j]? = some (.int g) := by rw [List.getElem?_map, hg] <;> rfl
        refine ⟨⟨_, _, kpS (kH2.trans k3), gV⟩, ?_⟩
        rintro v H4 ⟨rfl, fv⟩
        have ev : v = .int g := Option.some.inj ((fv _ (kpS (kH2.trans k3))).symm.trans gV)
        subst ev
        refine ⟨rfl, ?_⟩
        unfold tYes
        refine (if_pos rfl).mpr ?_
        refine ⟨.int g, rfl, g, rfl, .inl ⟨_, rfl, _, _, rfl, rfl, (by show (0 : Int) < 2147483629; decide), _, el3, ?_, kp_put k3 nl3, ks3 ++ [(if g < 0 then -g else g) % 2147483629], ?_, ?_⟩⟩
        · rw [List.length_map]
          exact small1000 (by omega)
        · rw [upd_same, List.map_append] <;> rfl
        · rw [List.length_append]
          show ks3.length + 1 ≤ j + 1
          omega
      · rintro H3 ⟨k3, ks3, el3, hk3⟩
        refine ⟨⟨_, kpS (kH2.trans k3), by rw [lenN]; exact Nat.le_refl _⟩, ?_⟩
        have ep3 := k3 p _ ep (.inr List.not_mem_nil)
        have ell := k3 l _ el2 (.inr List.not_mem_nil)
        have n1 : l ≠ p := fun e => by rw [e, ep3] at ell; cases ell
        have n2 : l3 ≠ p := fun e => by rw [e, ep3] at el3; cases el3
        have n3 : l ≠ l3 := fun e => by rw [e, nl3] at el2; cases el2
        refine ⟨ep3, drawKV l l3 0 0, rfl, by show 4 ≤ 15; omega, ?_⟩
        exact q _ p l l3 ⟨ks, ks3, 0, 0⟩ rfl (by show ks.length ≤ 63; omega) (by show ks3.length ≤ 63; omega) (kp_put (kH2.trans k3) np0) ⟨upd_same, by rw [upd_ne n1]; exact ell, by rw [upd_ne n2]; exact el3, by show ks.length ≤ 1000; omega, by show ks3.length ≤ 1000; omega, n3⟩ np0 nl (kp_none kH2 nl3)

end K78
set_option Elab.async false
set_option linter.all false
set_option maxRecDepth 100000
set_option maxHeartbeats 2000000
namespace Fx
variable [Nm]
open PySem PySem.Spec PyProof.Rows L2 Kb
/-! ### reading by value: one step each -/
section
variable {ρ : Env} {D : Dw} {a b c e : EX} {s t u : EB} {f g h : ST} {aa bb : EA} {i j k n : Nat} {d : PyData}
@[simp] theorem view_d (x : PyData) : view (.d x) = some x := rfl
@[simp] theorem view_l (x : List PyData) : view (.l x) = some (.list x) := rfl
@[simp] theorem view_m (x : List (PyData × PyData)) : view (.m x) = some (.dict x) := rfl
@[simp] theorem e_var : Ev.var i ρ D = match ρ[i]? with | some (some t) => ofO (view t) D | _ => .stuck := nr rfl
@[simp] theorem e_dat : Ev.dat i ρ D = match ρ[i]? with | some (some (.d x)) => .ok x D | _ => .stuck := nr rfl
@[simp] theorem e_c : Ev.c d ρ D = .ok d D := nr rfl
@[simp] theorem e_u1 {g : PyData → Option PyData} : Ev.u1 g a ρ D = (a ρ D).bind fun x D1 => ofO (g x) D1 := nr rfl
@[simp] theorem e_o2 {g : PyData → PyData → Option PyData} : Ev.o2 g a b ρ D = (a ρ D).bind fun x D1 => (b ρ D1).bind fun y D2 => ofO (g x y) D2 := nr rfl
@[simp] theorem e_tb : Ev.tb a ρ D = (a ρ D).bind fun x D1 => match x with | .bool b => .ok b D1 | _ => .stuck := nr rfl
@[simp] theorem e_tt : Ev.tt a ρ D = (a ρ D).bind fun x D1 => ofO (Ev.truD x) D1 := nr rfl
@[simp] theorem e_tand : Ev.tand s t ρ D = (s ρ D).bind fun x D1 => if x = true then t ρ D1 else .ok false D1 := nr rfl
@[simp] theorem e_tor : Ev.tor s t ρ D = (s ρ D).bind fun x D1 => if x = true then .ok true D1 else t ρ D1 := nr rfl
@[simp] theorem e_tnot : Ev.tnot s ρ D = (s ρ D).bind fun x D1 => .ok (!x) D1 := nr rfl
@[simp] theorem e_ifx : Ev.ifx s a b ρ D = (s ρ D).bind fun x D1 => if x = true then a ρ D1 else b ρ D1 := nr rfl
@[simp] theorem e_andv : Ev.andv a b ρ D = (a ρ D).bind fun x D1 => (ofO (Ev.truD x) D1).bind fun k D2 => if k = true then b ρ D2 else .ok x D2 := nr rfl
@[simp] theorem e_orv : Ev.orv a b ρ D = (a ρ D).bind fun x D1 => (ofO (Ev.truD x) D1).bind fun k D2 => if k = true then .ok x D2 else b ρ D2 := nr rfl
@[simp] theorem e_notv : Ev.notv a ρ D = (a ρ D).bind fun x D1 => (ofO (Ev.truD x) D1).bind fun k D2 => .ok (.bool (!k)) D2 := nr rfl
@[simp] theorem e_chain {g g' : PyData → PyData → Option PyData} : Ev.chain g g' a b c ρ D = (a ρ D).bind fun x D1 => (b ρ D1).bind fun y D2 => (ofO (g x y) D2).bind fun z D3 => match z with
  | .bool k => if k = true then (c ρ D3).bind fun u D4 => ofO (g' y u) D4 else .ok (.bool false) D3
  | _ => .stuck := by
  unfold Ev.chain
  congr 1; funext x D1; congr 1; funext y D2; congr 1; funext z D3
  cases z with
  | bool k => cases k <;> rfl
  | _ => rfl
@[simp] theorem e_nil : Ev.nil ρ D = .ok [] D := nr rfl
@[simp] theorem e_cons : Ev.cons a aa ρ D = (a ρ D).bind fun x D1 => (aa ρ D1).bind fun xs D2 => .ok (x :: xs) D2 := nr rfl
@[simp] theorem e_tup : Ev.tup aa ρ D = (aa ρ D).bind fun xs D1 => if xs.length ≤ 1000 then .ok (.tuple xs) D1 else .stuck := nr rfl
@[simp] theorem e_lst : Ev.lst aa ρ D = (aa ρ D).bind fun xs D1 => if xs.length ≤ 1000 then .ok (.list xs) D1 else .stuck := nr rfl
@[simp] theorem e_sl {l h : EO} : Ev.sl a l h ρ D = (a ρ D).bind fun d D1 => (l ρ D1).bind fun lo D2 => (h ρ D2).bind fun hi D3 => ofO (gSl lo hi d) D3 := nr rfl
@[simp] theorem e_noPart : Ev.noPart ρ D = .ok none D := nr rfl
@[simp] theorem e_part : Ev.part a ρ D = (a ρ D).bind fun d D1 => match d with | .int i => .ok (some i) D1 | _ => .stuck := nr rfl
@[simp] theorem e_call0 {F : List PyData → Dw → R PyData} : Ev.call0 n F aa ρ D = (aa ρ D).bind fun ds D1 => if ds.length = n then match F ds D1 with | .ok r _ => .ok r D1 | _ => .stuck else .stuck := nr rfl
@[simp] theorem e_callE {F : List PyData → Dw → R PyData} : Ev.callE n F aa ρ D = (aa ρ D).bind fun ds D1 => if ds.length = n then match F ds D1 with | .ok r _ => .ok r D1 | .err c fs _ => .err c fs D1 | .stuck => .stuck else .stuck := nr rfl
@[simp] theorem e_callD {F : List PyData → Dw → R PyData} : Ev.callD i n F aa ρ D = match ρ[i]? with
  | some (some .w) => (aa ρ D).bind fun ds D1 => if ds.length = n then match F ds D1 with | .ok r D2 => .ok r D2 | _ => .stuck else .stuck
  | _ => .stuck := nr rfl
@[simp] theorem e_callC {F : List PyData → List PyData → Dw → R PyData} : Ev.callC i n F aa ρ D = match ρ[i]? with
  | some (some (.cl cs)) => (aa ρ D).bind fun ds D1 => if ds.length = n then match F cs ds D1 with | .ok r _ => .ok r D1 | _ => .stuck else .stuck
  | _ => .stuck := nr rfl
@[simp] theorem e_lamC {F : List PyData → List PyData → Dw → R PyData} {js : List Nat} : Ev.lamC js n F aa ρ D = match Ev.capD ρ js with
  | some cs => (aa ρ D).bind fun ds D1 => if ds.length = n then match F cs ds D1 with | .ok r _ => .ok r D1 | _ => .stuck else .stuck
  | none => .stuck := nr rfl
@[simp] theorem e_sw2 : Ev.sw2 aa ρ D = (aa ρ D).bind fun ds D1 => match ds with | [x, y] => .ok [y, x] D1 | _ => .stuck := nr rfl
@[simp] theorem e_caught {en : List Str} : Ev.caught en a ρ D = match a (dropO ρ) D with | .ok _ D' => .ok .none D' | .err c fs D' => if c ∈ en then .ok (errD c fs) D' else .stuck | .stuck => .stuck := nr rfl
@[simp] theorem e_lenS : Ev.lenS i ρ D = match ρ[i]? with | some (some (.sc ns)) => .ok (.int ns.length) D | _ => .stuck := nr rfl
@[simp] theorem e_yes : Ev.yes ρ D = .ok true D := nr rfl
@[simp] theorem e_lc {vs : List Nat} {g : EG} : Ev.lc vs aa g t a ρ D = (aa ρ D).bind fun ds D1 => if ds.length < 10000000 ∧ Ev.noOwn ρ vs = true then (Ev.lcLoop (wipeE ρ vs) g t a ds D1).bind fun ys D2 => .ok (.list ys) D2 else .stuck := nr rfl
@[simp] theorem e_allG {st : Bool} {ks : List Nat} {g : EG} : Ev.allG st n ks aa g a ρ D = (aa ρ D).bind fun ds D1 => if ds.length < 10000000 ∧ ks.all (fun k => decide (ρ.length ≤ k)) = true then Ev.allLoop st (ρ ++ List.replicate n none) g a ds D1 else .stuck := nr rfl
@[simp] theorem e_sm1 {g : Str → PyData → Option PyData} : Ev.sm1 g a b ρ D = (a ρ D).bind fun x D1 => match x with | .str z => (b ρ D1).bind fun y D2 => ofO (g z y) D2 | _ => .stuck := nr rfl
@[simp] theorem i_items : Iv.items a ρ D = (a ρ D).bind fun d D1 => match d with | .list xs => .ok xs D1 | .tuple xs => .ok xs D1 | _ => .stuck := nr rfl
@[simp] theorem i_range1 : Iv.range1 a ρ D = (a ρ D).bind fun d D1 => match d with | .int n => if n < 10000000 ∧ -10000000 < n then .ok ((List.range n.toNat).map fun (i : Nat) => .int (i : Int)) D1 else .stuck | _ => .stuck := nr rfl
@[simp] theorem i_range2 : Iv.range2 a b ρ D = (a ρ D).bind fun d D1 => (b ρ D1).bind fun d2 D2 => match d, d2 with | .int m, .int n => if (n < 10000000 ∧ -10000000 < n) ∧ (m < 10000000 ∧ -10000000 < m) then .ok ((List.range (n - m).toNat).map fun (i : Nat) => .int (m + i)) D2 else .stuck | _, _ => .stuck := nr rfl
@[simp] theorem i_enum : Iv.enum a ρ D = (a ρ D).bind fun d D1 => match d with | .list xs => .ok (xs.zipIdx.map fun p => .tuple [.int (p.2 : Int), p.1]) D1 | .tuple xs => .ok (xs.zipIdx.map fun p => .tuple [.int (p.2 : Int), p.1]) D1 | _ => .stuck := nr rfl
@[simp] theorem g_name {d : PyData} : Gv.name i d ρ = some (ρ.set i (some (.d d))) := nr rfl
@[simp] theorem s_skip : Sv.skip ρ D = .ok (.nx, ρ) D := nr rfl
@[simp] theorem s_seq : Sv.seq f g ρ D = (f ρ D).bind fun p D1 => match p with | (.nx, ρ1) => g ρ1 D1 | q => .ok q D1 := nr rfl
@[simp] theorem s_set : Sv.set i a ρ D = (a ρ D).bind fun d D1 => .ok (.nx, ρ.set i (some (.d d))) D1 := nr rfl
@[simp] theorem s_setO : Sv.setO i a ρ D = (a ρ D).bind fun d D1 => (ofO (Sv.ownT d) D1).bind fun t D2 => .ok (.nx, ρ.set i (some t)) D2 := nr rfl
@[simp] theorem s_ret : Sv.ret a ρ D = (a ρ D).bind fun d D1 => .ok (.ret d, ρ) D1 := nr rfl
@[simp] theorem s_retO : Sv.retO i ρ D = match ρ[i]? with | some (some t) => if own t = true then (ofO (view t) D).bind fun d D1 => .ok (.ret d, ρ) D1 else .stuck | _ => .stuck := nr rfl
@[simp] theorem s_ite : Sv.ite t f g ρ D = (t ρ D).bind fun b D1 => if b = true then f ρ D1 else g ρ D1 := nr rfl
@[simp] theorem s_brk : Sv.brk ρ D = .ok (.brk, ρ) D := nr rfl
@[simp] theorem s_ct : Sv.ct ρ D = .ok (.ct, ρ) D := nr rfl
@[simp] theorem s_raise {c : Str} : Sv.raise c ρ D = .err c [] D := nr rfl
@[simp] theorem s_frz : Sv.frz i f ρ D = match ρ[i]? with | some (some t) => (match view t with | some d => f (ρ.set i (some (.d d))) D | none => f ρ D) | _ => f ρ D := nr rfl
@[simp] theorem s_append : Sv.append i a ρ D = match ρ[i]? with | some (some (.l xs)) => (a ρ D).bind fun d D1 => if xs.length < 10000000 then .ok (.nx, ρ.set i (some (.l (xs ++ [d])))) D1 else .stuck | _ => .stuck := nr rfl
@[simp] theorem s_extend : Sv.extend i a ρ D = match ρ[i]? with | some (some (.l xs)) => (a ρ D).bind fun d D1 => (match d with | .list ys => if xs.length + ys.length < 10000000 then .ok (.nx, ρ.set i (some (.l (xs ++ ys)))) D1 else .stuck | _ => .stuck) | _ => .stuck := by
  unfold Sv.extend; rfl
@[simp] theorem s_aug {g : PyData → PyData → Option PyData} : Sv.aug i g a ρ D = match ρ[i]? with | some (some (.d x)) => (a ρ D).bind fun y D1 => (match g x y with | some z => .ok (.nx, ρ.set i (some (.d z))) D1 | none => .stuck) | _ => .stuck := nr rfl
@[simp] theorem s_par : Sv.par i j a b ρ D = (a ρ D).bind fun x D1 => (b ρ D1).bind fun y D2 => .ok (.nx, (ρ.set i (some (.d x))).set j (some (.d y))) D2 := nr rfl
@[simp] theorem s_for {g : EG} : Sv.for_ aa g f ρ D = (aa ρ D).bind fun ds D1 => Sv.loop g f ds ρ D1 := nr rfl
end
@[simp] theorem x_runF (ex dr fr : Bool) (m : Nat) (f : ST) (ds : List PyData) (D : Dw) : runF ex dr fr m f ds D = match f (env0 dr m ds) D with
  | .ok (.ret d, _) D' => .ok d D'
  | .ok (.nx, _) D' => if fr = true then .stuck else .ok .none D'
  | .err c fs D' => if ex = true then .err c fs D' else .stuck
  | _ => .stuck := nr rfl
@[simp] theorem x_runL (m : Nat) (f : EX) (cs ds : List PyData) (D : Dw) : runL m f cs ds D = f (env0 false m (ds ++ cs)) D := nr rfl
@[simp] theorem x_runC (m : Nat) (f : ST) (cs ds : List PyData) (D : Dw) : runC m f cs ds D = match f (envC m ds cs) D with
  | .ok (.ret d, _) D' => .ok d D'
  | .ok (.nx, _) D' => .ok .none D'
  | _ => .stuck := nr rfl
@[simp] theorem x_env0 (dr : Bool) (m : Nat) (ds : List PyData) : env0 dr m ds = (if dr = true then [some T.w] else []) ++ ds.map (fun d => some (T.d d)) ++ List.replicate (m - (if dr = true then 1 else 0) - ds.length) none := nr rfl
@[simp] theorem x_envC (m : Nat) (ds cs : List PyData) : envC m ds cs = ds.map (fun d => some (T.d d)) ++ ([some (T.cl cs)] ++ List.replicate (m - ds.length - 1) none) := nr rfl
@[simp] theorem x_gI (f : Int → Int → Option PyData) (i j : Int) : gI f (.int i) (.int j) = f i j := nr rfl
@[simp] theorem x_gB (f : Int → Int → Bool) (i j : Int) : gB f (.int i) (.int j) = some (.bool (f i j)) := nr rfl
@[simp] theorem x_cLe (i j : Int) : cLe i j = decide (i ≤ j) := nr rfl
@[simp] theorem x_cLt (i j : Int) : cLt i j = decide (i < j) := nr rfl
@[simp] theorem x_add (i j : Int) : gAdd (.int i) (.int j) = some (.int (i + j)) := nr rfl
@[simp] theorem x_addL (xs ys : List PyData) : gAdd (.list xs) (.list ys) = if xs.length + ys.length ≤ sizeLine then some (.list (xs ++ ys)) else none := nr rfl
@[simp] theorem x_addT (xs ys : List PyData) : gAdd (.tuple xs) (.tuple ys) = if xs.length + ys.length ≤ sizeLine then some (.tuple (xs ++ ys)) else none := nr rfl
@[simp] theorem x_addS (xs ys : Str) : gAdd (.str xs) (.str ys) = if xs.length + ys.length ≤ sizeLine then some (.str (xs ++ ys)) else none := nr rfl
@[simp] theorem x_ixL (xs : List PyData) (i : Int) : gIx (.list xs) (.int i) = atI xs i := nr rfl
@[simp] theorem x_ixT (xs : List PyData) (i : Int) : gIx (.tuple xs) (.int i) = atI xs i := nr rfl
@[simp] theorem x_ixS (z : Str) (i : Int) : gIx (.str z) (.int i) = if z.length ≤ sizeLine then (atI z.cps.toList i).map fun c => .str ⟨#[c]⟩ else none := nr rfl
@[simp] theorem x_lenL (xs : List PyData) : lenD (.list xs) = some (.int xs.length) := nr rfl
@[simp] theorem x_lenT (xs : List PyData) : lenD (.tuple xs) = some (.int xs.length) := nr rfl
@[simp] theorem x_lenS (z : Str) : lenD (.str z) = if z.length ≤ sizeLine then some (.int z.length) else none := nr rfl
@[simp] theorem x_tupL (xs : List PyData) : gTuple (.list xs) = some (.tuple xs) := nr rfl
@[simp] theorem x_tupT (xs : List PyData) : gTuple (.tuple xs) = some (.tuple xs) := nr rfl
@[simp] theorem x_max2 (i j : Int) : gMax2 i j = some (.int (if j > i then j else i)) := nr rfl
@[simp] theorem x_min2 (i j : Int) : gMin2 i j = some (.int (if j < i then j else i)) := nr rfl
@[simp] theorem x_neg (i : Int) : gNeg (.int i) = some (.int (-i)) := nr rfl
@[simp] theorem x_lt (i j : Int) : gLt (.int i) (.int j) = some (.bool (decide (i < j))) := nr rfl
@[simp] theorem x_tb (b : Bool) : Ev.truD (.bool b) = some b := nr rfl
@[simp] theorem x_slL (lo hi : Option Int) (xs : List PyData) : gSl lo hi (.list xs) = some (.list (cutD xs lo hi)) := nr rfl
@[simp] theorem x_slT (lo hi : Option Int) (xs : List PyData) : gSl lo hi (.tuple xs) = some (.tuple (cutD xs lo hi)) := nr rfl
@[simp] theorem x_slS (lo hi : Option Int) (z : Str) : gSl lo hi (.str z) = if z.length ≤ sizeLine then some (.str (cutS z lo hi)) else none := nr rfl
theorem at_nat {α : Type} (xs : List α) (j : Nat) : atI xs (j : Int) = xs[j]? := by
  unfold atI ixN
  rw [if_pos (by omega)]
  split
  · simp
  · rename_i h
    rw [List.getElem?_eq_none (by omega)]; rfl
theorem at_0 {α : Type} (xs : List α) : atI xs 0 = xs[0]? := at_nat xs 0
theorem at_1 {α : Type} (xs : List α) : atI xs 1 = xs[1]? := at_nat xs 1
theorem at_2 {α : Type} (xs : List α) : atI xs 2 = xs[2]? := at_nat xs 2
@[simp] theorem at_c0 {α : Type} (x : α) (xs : List α) : atI (x :: xs) 0 = some x := at_nat (x :: xs) 0
@[simp] theorem at_c1 {α : Type} (x y : α) (xs : List α) : atI (x :: y :: xs) 1 = some y := at_nat (x :: y :: xs) 1
@[simp] theorem at_c2 {α : Type} (x y z : α) (xs : List α) : atI (x :: y :: z :: xs) 2 = some z := at_nat (x :: y :: z :: xs) 2
theorem cut_nat (xs : List PyData) (a b : Nat) : cutD xs (some (a : Int)) (some (b : Int)) = (xs.drop a).take (b - a) := by
  unfold cutD
  rw [HT.sIx_nat, HT.sIx_nat]
  by_cases h : a ≤ xs.length
  · rw [Nat.min_eq_left h]
    by_cases h2 : b ≤ xs.length
    · rw [Nat.min_eq_left h2]
    · rw [Nat.min_eq_right (by omega), List.take_of_length_le (by rw [List.length_drop]; exact Nat.le_refl _), List.take_of_length_le (by rw [List.length_drop]; omega)]
  · rw [show min a xs.length = xs.length by omega, List.drop_of_length_le (Nat.le_refl xs.length), List.drop_of_length_le (by omega : xs.length ≤ a), List.take_nil, List.take_nil]
theorem cutS_nat (z : Str) (a b : Nat) : cutS z (some (a : Int)) (some (b : Int)) = ⟨((z.cps.toList.drop a).take (b - a)).toArray⟩ := by
  unfold cutS
  have hz : z.length = z.cps.toList.length := by simp [Str.length]
  rw [hz, HT.sIx_nat, HT.sIx_nat]
  generalize z.cps.toList = xs
  congr 2
  by_cases h : a ≤ xs.length
  · rw [Nat.min_eq_left h]
    by_cases h2 : b ≤ xs.length
    · rw [Nat.min_eq_left h2]
    · rw [Nat.min_eq_right (by omega), List.take_of_length_le (by rw [List.length_drop]; exact Nat.le_refl _), List.take_of_length_le (by rw [List.length_drop]; omega)]
  · rw [show min a xs.length = xs.length by omega, List.drop_of_length_le (Nat.le_refl xs.length), List.drop_of_length_le (by omega : xs.length ≤ a), List.take_nil, List.take_nil]
/-- what a name holds, in a list of names -/
theorem at0 {x : Option T} {r : Env} : (x :: r)[0]? = some x := rfl
@[simp] theorem ownT_list (xs : List PyData) : Sv.ownT (.list xs) = some (.l xs) := rfl
/-- kinds -/
def isNumD : PyData → Bool
  | .int _ => true
  | _ => false
def isBoolD : PyData → Bool
  | .bool _ => true
  | _ => false
def isStrD : PyData → Bool
  | .str _ => true
  | _ => false
def isTupD : PyData → Bool
  | .tuple _ => true
  | _ => false
def isListD : PyData → Bool
  | .list _ => true
  | _ => false
section
variable {d : PyData}
theorem kb_none_int : kitB "NoneType" "int" = some false := by decide +kernel
theorem kb_none_bool : kitB "NoneType" "bool" = some false := by decide +kernel
theorem kb_none_str : kitB "NoneType" "str" = some false := by decide +kernel
theorem kb_none_tuple : kitB "NoneType" "tuple" = some false := by decide +kernel
theorem kb_none_list : kitB "NoneType" "list" = some false := by decide +kernel
theorem kb_bool_int : kitB "bool" "int" = some true := by decide +kernel
theorem kb_bool_bool : kitB "bool" "bool" = some true := by decide +kernel
theorem kb_bool_str : kitB "bool" "str" = some false := by decide +kernel
theorem kb_bool_tuple : kitB "bool" "tuple" = some false := by decide +kernel
theorem kb_bool_list : kitB "bool" "list" = some false := by decide +kernel
theorem kb_int_int : kitB "int" "int" = some true := by decide +kernel
theorem kb_int_bool : kitB "int" "bool" = some false := by decide +kernel
theorem kb_int_str : kitB "int" "str" = some false := by decide +kernel
theorem kb_int_tuple : kitB "int" "tuple" = some false := by decide +kernel
theorem kb_int_list : kitB "int" "list" = some false := by decide +kernel
theorem kb_str_int : kitB "str" "int" = some false := by decide +kernel
theorem kb_str_bool : kitB "str" "bool" = some false := by decide +kernel
theorem kb_str_str : kitB "str" "str" = some true := by decide +kernel
theorem kb_str_tuple : kitB "str" "tuple" = some false := by decide +kernel
theorem kb_str_list : kitB "str" "list" = some false := by decide +kernel
theorem kb_list_int : kitB "list" "int" = some false := by decide +kernel
theorem kb_list_bool : kitB "list" "bool" = some false := by decide +kernel
theorem kb_list_str : kitB "list" "str" = some false := by decide +kernel
theorem kb_list_tuple : kitB "list" "tuple" = some false := by decide +kernel
theorem kb_list_list : kitB "list" "list" = some true := by decide +kernel
theorem kb_tuple_int : kitB "tuple" "int" = some false := by decide +kernel
theorem kb_tuple_bool : kitB "tuple" "bool" = some false := by decide +kernel
theorem kb_tuple_str : kitB "tuple" "str" = some false := by decide +kernel
theorem kb_tuple_tuple : kitB "tuple" "tuple" = some true := by decide +kernel
theorem kb_tuple_list : kitB "tuple" "list" = some false := by decide +kernel
theorem kb_dict_int : kitB "dict" "int" = some false := by decide +kernel
theorem kb_dict_bool : kitB "dict" "bool" = some false := by decide +kernel
theorem kb_dict_str : kitB "dict" "str" = some false := by decide +kernel
theorem kb_dict_tuple : kitB "dict" "tuple" = some false := by decide +kernel
theorem kb_dict_list : kitB "dict" "list" = some false := by decide +kernel
theorem isi_int (h : isErrD d = false) : isiD "int" d = some (.bool (isNumD d || isBoolD d)) := by
  unfold isiD; rw [if_neg (by rw [h]; exact Bool.noConfusion)]; cases d <;> simp only [tyD, kb_none_int, kb_bool_int, kb_int_int, kb_str_int, kb_list_int, kb_tuple_int, kb_dict_int] <;> rfl
theorem isi_bool (h : isErrD d = false) : isiD "bool" d = some (.bool (isBoolD d)) := by
  unfold isiD; rw [if_neg (by rw [h]; exact Bool.noConfusion)]; cases d <;> simp only [tyD, kb_none_bool, kb_bool_bool, kb_int_bool, kb_str_bool, kb_list_bool, kb_tuple_bool, kb_dict_bool] <;> rfl
theorem isi_str (h : isErrD d = false) : isiD "str" d = some (.bool (isStrD d)) := by
  unfold isiD; rw [if_neg (by rw [h]; exact Bool.noConfusion)]; cases d <;> simp only [tyD, kb_none_str, kb_bool_str, kb_int_str, kb_str_str, kb_list_str, kb_tuple_str, kb_dict_str] <;> rfl
theorem isi_tuple (h : isErrD d = false) : isiD "tuple" d = some (.bool (isTupD d)) := by
  unfold isiD; rw [if_neg (by rw [h]; exact Bool.noConfusion)]; cases d <;> simp only [tyD, kb_none_tuple, kb_bool_tuple, kb_int_tuple, kb_str_tuple, kb_list_tuple, kb_tuple_tuple, kb_dict_tuple] <;> rfl
theorem isi_list (h : isErrD d = false) : isiD "list" d = some (.bool (isListD d)) := by
  unfold isiD; rw [if_neg (by rw [h]; exact Bool.noConfusion)]; cases d <;> simp only [tyD, kb_none_list, kb_bool_list, kb_int_list, kb_str_list, kb_list_list, kb_tuple_list, kb_dict_list] <;> rfl
theorem isi_tl (h : isErrD d = false) : isiD2 "tuple" "list" d = some (.bool (isTupD d || isListD d)) := by
  unfold isiD2; rw [if_neg (by rw [h]; exact Bool.noConfusion)]; cases d <;> simp only [tyD, kb_none_tuple, kb_none_list, kb_bool_tuple, kb_bool_list, kb_int_tuple, kb_int_list, kb_str_tuple, kb_str_list, kb_list_tuple, kb_list_list, kb_tuple_tuple, kb_tuple_list, kb_dict_tuple, kb_dict_list] <;> rfl
@[simp] theorem isi_int_t (xs : List PyData) : isiD "int" (.tuple xs) = some (.bool false) := isi_int rfl
@[simp] theorem isi_tuple_t (xs : List PyData) : isiD "tuple" (.tuple xs) = some (.bool true) := isi_tuple rfl
@[simp] theorem isi_tuple_l (xs : List PyData) : isiD "tuple" (.list xs) = some (.bool false) := isi_tuple rfl
@[simp] theorem isi_tl_t (xs : List PyData) : isiD2 "tuple" "list" (.tuple xs) = some (.bool true) := isi_tl rfl
@[simp] theorem isi_tl_l (xs : List PyData) : isiD2 "tuple" "list" (.list xs) = some (.bool true) := isi_tl rfl
end
theorem plain_noErr {d : PyData} (h : plain d = true) : isErrD d = false := by
  cases d with
  | dict ds => unfold plain at h; cases h
  | _ => rfl
theorem plains_all {ds : List PyData} : plains ds = true ↔ ∀ d ∈ ds, plain d = true := by
  induction ds with
  | nil => exact ⟨fun _ d m => absurd m List.not_mem_nil, fun _ => rfl⟩
  | cons x r ih =>
    unfold plains
    rw [Bool.and_eq_true, ih]
    exact ⟨fun ⟨a, b⟩ d m => (List.mem_cons.mp m).elim (fun e => e ▸ a) (b d), fun h => ⟨h x List.mem_cons_self, fun d m => h d (List.mem_cons_of_mem _ m)⟩⟩
/-! ### comprehensions and loops by value -/
theorem lc_map {ρ : Env} {g : EG} {t : EB} {a : EX} (h : PyData → PyData) (D : Dw) : ∀ ds : List PyData, (∀ d ∈ ds, ∃ ρ1, g d ρ = some ρ1 ∧ t ρ1 D = .ok true D ∧ a ρ1 D = .ok (h d) D) → Ev.lcLoop ρ g t a ds D = .ok (ds.map h) D
  | [], _ => rfl
  | d :: r, hd => by
    obtain ⟨ρ1, e1, e2, e3⟩ := hd d List.mem_cons_self
    unfold Ev.lcLoop
    simp only [e1, e2, e3, lc_map h D r fun d m => hd d (List.mem_cons_of_mem _ m), bind_ok, List.map_cons]
theorem lc_filt {ρ : Env} {g : EG} {t : EB} {a : EX} (p : PyData → Bool) (h : PyData → PyData) (D : Dw) : ∀ ds : List PyData, (∀ d ∈ ds, ∃ ρ1, g d ρ = some ρ1 ∧ t ρ1 D = .ok (p d) D ∧ a ρ1 D = .ok (h d) D) → Ev.lcLoop ρ g t a ds D = .ok ((ds.filter p).map h) D
  | [], _ => rfl
  | d :: r, hd => by
    obtain ⟨ρ1, e1, e2, e3⟩ := hd d List.mem_cons_self
    have ih := lc_filt p h D r fun d m => hd d (List.mem_cons_of_mem _ m)
    unfold Ev.lcLoop
    cases q : p d with
    | true =>
      rw [q] at e2
      simp only [e1, e2, e3, ih, bind_ok, List.filter_cons, q, if_true, List.map_cons]
    | false =>
      rw [q] at e2
      simp only [e1, e2, ih, List.filter_cons, q, Bool.false_eq_true, if_false]
theorem range1_nat {ρ : Env} {D : Dw} {a : EX} {n : Nat} (h : a ρ D = .ok (.int n) D) (hn : n < 10000000) : Iv.range1 a ρ D = .ok ((List.range n).map fun (i : Nat) => .int (i : Int)) D := by
  rw [i_range1, h, bind_ok]
  dsimp only
  rw [if_pos ⟨by omega, by omega⟩, Int.toNat_natCast]
/-- a comprehension that draws -/
theorem lc_draw {ρ : Env} {g : EG} {t : EB} {a : EX} (I : Nat → Dw → Prop) (Pd : PyData → Prop) : ∀ (ds : List PyData) (n : Nat) (D : Dw), I n D → (∀ k D, k < n + ds.length → I k D → ∀ d ∈ ds, ∃ ρ1, g d ρ = some ρ1 ∧ t ρ1 D = .ok true D ∧ ∃ y D', a ρ1 D = .ok y D' ∧ Pd y ∧ I (k + 1) D') →
    ∃ ys D', Ev.lcLoop ρ g t a ds D = .ok ys D' ∧ ys.length = ds.length ∧ (∀ y ∈ ys, Pd y) ∧ I (n + ds.length) D'
  | [], n, D, h, _ => ⟨[], D, rfl, rfl, fun y m => absurd m List.not_mem_nil, h⟩
  | d :: r, n, D, h, hd => by
    obtain ⟨ρ1, e1, e2, y, D1, e3, p, h1⟩ := hd n D (by rw [List.length_cons]; omega) h d List.mem_cons_self
    obtain ⟨ys, D', e4, l, ps, h2⟩ := lc_draw I Pd r (n + 1) D1 h1 fun k D hk i d m => hd k D (by rw [List.length_cons]; omega) i d (List.mem_cons_of_mem _ m)
    refine ⟨y :: ys, D', ?_, by rw [List.length_cons, List.length_cons, l], fun z m => (List.mem_cons.mp m).elim (fun e => e ▸ p) (ps z), by rw [List.length_cons, ← Nat.add_assoc, Nat.add_right_comm]; exact h2⟩
    unfold Ev.lcLoop
    simp only [e1, e2, e3, e4, bind_ok]
/-- a loop by an invariant of what is left; the loop may return -/
theorem loop_inv {g : EG} {f : ST} {R_ : Out → Env → Dw → Prop} (I : List PyData → Env → Dw → Prop) (he : ∀ ρ D, I [] ρ D → R_ .nx ρ D)
    (hs : ∀ d r ρ D, I (d :: r) ρ D → ∃ ρ1, g d ρ = some ρ1 ∧ ∃ o ρ2 D2, f ρ1 D = .ok (o, ρ2) D2 ∧ ((o = .nx ∨ o = .ct) ∧ I r ρ2 D2 ∨ o = .brk ∧ R_ .nx ρ2 D2 ∨ ∃ v, o = .ret v ∧ R_ (.ret v) ρ2 D2)) :
    ∀ ds ρ D, I ds ρ D → ∃ o ρ' D', Sv.loop g f ds ρ D = .ok (o, ρ') D' ∧ R_ o ρ' D'
  | [], ρ, D, h => ⟨.nx, ρ, D, rfl, he ρ D h⟩
  | d :: r, ρ, D, h => by
    obtain ⟨ρ1, e1, o, ρ2, D2, e2, q⟩ := hs d r ρ D h
    unfold Sv.loop
    simp only [e1, e2, bind_ok]
    rcases q with ⟨rfl | rfl, q⟩ | ⟨rfl, q⟩ | ⟨v, rfl, q⟩
    · exact loop_inv I he hs r ρ2 D2 q
    · exact loop_inv I he hs r ρ2 D2 q
    · exact ⟨.nx, ρ2, D2, rfl, q⟩
    · exact ⟨.ret v, ρ2, D2, rfl, q⟩
/-- a while by an invariant that falls -/
theorem while_inv {t : EB} {f : ST} {R_ : Env → Dw → Prop} (I : Nat → Env → Dw → Prop)
    (hs : ∀ n ρ D, I n ρ D → (t ρ D = .ok false D ∧ R_ ρ D) ∨ (t ρ D = .ok true D ∧ ∃ ρ2 D2 m, f ρ D = .ok (.nx, ρ2) D2 ∧ m < n ∧ I m ρ2 D2)) :
    ∀ n ρ D, I n ρ D → ∃ ρ' D', Sv.while_ t f ρ D = .ok (.nx, ρ') D' ∧ R_ ρ' D' := by
  intro n
  induction n using Nat.strongRecOn with
  | ind n ih =>
    intro ρ D h
    rw [Sv.while_turn]
    rcases hs n ρ D h with ⟨e, q⟩ | ⟨e, ρ2, D2, m, e2, hm, q⟩
    · exact ⟨ρ, D, by rw [e]; rfl, q⟩
    · obtain ⟨ρ', D', e3, q'⟩ := ih m hm ρ2 D2 q
      exact ⟨ρ', D', by rw [e]; simp only [bind_ok, if_true, e2, e3], q'⟩
/-- drawn numbers -/
theorem take_spec {many : Int} {D : Dw} {n : Int} (h1 : 0 < many) (h2 : many < 1073741824) (h3 : 0 ≤ D.turn) (h4 : D.turn ≤ n) (h5 : n ≤ 1000000000) :
    ∃ (v : Nat) (D' : Dw), f_l_take [.int many] D = .ok (.int v) D' ∧ (v : Int) < many ∧ 0 ≤ D'.turn ∧ D'.turn ≤ n + 1 := by
  have e : f_l_take [.int many] D = .ok (.int (takeF many D).1) (takeF many D).2 := by
    show (if 0 < many ∧ many < 1073741824 ∧ 0 ≤ D.turn ∧ D.turn ≤ 1000000000 then _ else _) = _
    rw [if_pos ⟨h1, h2, h3, Int.le_trans h4 h5⟩]
  have a := Int.emod_nonneg (restF D).1 (Int.ne_of_gt h1)
  have b := Int.emod_lt_of_pos (restF D).1 h1
  refine ⟨((restF D).1 % many).toNat, (takeF many D).2, ?_, ?_, ?_, ?_⟩
  · rw [e, Int.toNat_of_nonneg a]
    rfl
  · rw [Int.toNat_of_nonneg a]; exact b
  · show 0 ≤ (restF D).2.turn
    unfold restF
    split
    · split
      · exact h3
      · show 0 ≤ D.turn + 1
        omega
    · exact h3
  · show (restF D).2.turn ≤ n + 1
    unfold restF
    split
    · split
      · show D.turn ≤ n + 1
        omega
      · show D.turn + 1 ≤ n + 1
        omega
    · show D.turn ≤ n + 1
      omega
end Fx
set_option Elab.async false
set_option linter.all false
set_option maxRecDepth 100000
set_option maxHeartbeats 2000000
namespace K78
open PySem PySem.Spec PyProof.Rows L2 Kb Fx
variable [Nm]
/-! ### kinds -/
theorem f_is_number_eq (d : PyData) (h : isErrD d = false) (D : Dw) : f_is_number [d] D = .ok (.bool (isNumD d)) D := by
  simp [f_is_number, b_is_number, isi_int h, isi_bool h]
  cases d <;> rfl
def inR (d : PyData) (lo hi : Int) : Bool := match d with
  | .int i => decide (lo ≤ i) && decide (i ≤ hi)
  | _ => false
theorem f_within_eq (d : PyData) (h : isErrD d = false) (lo hi : Int) (D : Dw) : f_within [d, .int lo, .int hi] D = .ok (.bool (inR d lo hi)) D := by
  have e := f_is_number_eq d h
  cases d with
  | int i => by_cases hl : lo ≤ i <;> simp [f_within, b_within, e, isNumD, inR, hl]
  | _ => simp [f_within, b_within, e, isNumD, inR]
theorem f_is_cell_eq (d : PyData) (h : isErrD d = false) (D : Dw) : f_is_cell [d] D = .ok (.bool (inR d 0 63)) D := by
  simp [f_is_cell, b_is_cell, f_within_eq d h]
def seqOf : PyData → Option (List PyData)
  | .list xs => some xs
  | .tuple xs => some xs
  | _ => none
def cellsB (d : PyData) : Bool := match seqOf d with
  | some xs => xs.all fun x => inR x 0 63
  | none => false
theorem cells_e (y : Option Fx.T) (d : PyData) (h : isErrD d = false) (D : Dw) : e_are_cells_1 [y, some (.d d)] D = .ok (.bool (inR d 0 63)) D := by
  simp [e_are_cells_1, f_is_cell_eq d h]
theorem cells_loop (y : Option Fx.T) : ∀ (ds : List PyData) (D : Dw), (∀ d ∈ ds, isErrD d = false) → Ev.allLoop false [y, none] (Gv.name 1) e_are_cells_1 ds D = .ok (.bool (ds.all fun x => inR x 0 63)) D
  | [], D, _ => rfl
  | d :: r, D, h => by
    have ih := cells_loop y r D (fun d m => h d (List.mem_cons_of_mem _ m))
    unfold Ev.allLoop
    cases hb : inR d 0 63 <;> simp [cells_e y d (h d List.mem_cons_self), hb, ih]
theorem f_are_cells_eq (d : PyData) (h : isErrD d = false) (hs : ∀ xs, seqOf d = some xs → xs.length < 10000000 ∧ ∀ x ∈ xs, isErrD x = false) (D : Dw) : f_are_cells [d] D = .ok (.bool (cellsB d)) D := by
  cases d with
  | list xs => simp [f_are_cells, b_are_cells, cellsB, seqOf, (hs xs rfl).1, cells_loop _ xs _ (hs xs rfl).2]
  | tuple xs => simp [f_are_cells, b_are_cells, cellsB, seqOf, (hs xs rfl).1, cells_loop _ xs _ (hs xs rfl).2]
  | _ => simp [f_are_cells, b_are_cells, isi_tl h, isTupD, isListD, cellsB, seqOf]
/-- data that can be laid: no dict in it, texts that are texts -/
def Lay (d : PyData) : Prop := d.canLay0 = true
theorem Lay.noErr {d : PyData} (h : Lay d) : isErrD d = false := plain_noErr (plain_lay h)
theorem lay_all {xs : List PyData} (h : PyData.canLayAll0 xs = true) : ∀ x ∈ xs, Lay x := by
  induction xs with
  | nil => exact fun x m => absurd m List.not_mem_nil
  | cons y r ih =>
    have h' : y.canLay0 = true ∧ PyData.canLayAll0 r = true := by simpa [PyData.canLayAll0] using h
    exact fun x m => (List.mem_cons.mp m).elim (fun e => e ▸ h'.1) (ih h'.2 x)
theorem Lay.tup {xs : List PyData} (h : Lay (.tuple xs)) : ∀ x ∈ xs, Lay x := lay_all (by simpa [Lay, PyData.canLay0] using h)
theorem Lay.lst {xs : List PyData} (h : Lay (.list xs)) : ∀ x ∈ xs, Lay x := lay_all (by simpa [Lay, PyData.canLay0] using h)
theorem Lay.str {x : Str} (h : Lay (.str x)) : PyData.strOk x = true := by simpa [Lay, PyData.canLay0] using h
@[simp] theorem eqI (i j : Int) : gEq (.int i) (.int j) = some (.bool (i == j)) := rfl
@[simp] theorem neI (i j : Int) : gNe (.int i) (.int j) = some (.bool (!(i == j))) := rfl
theorem eqS {x y : Str} (hx : PyData.strOk x = true) (hy : PyData.strOk y = true) : gEq (.str x) (.str y) = some (.bool (x == y)) := by
  unfold gEq
  have h1 : SeqAt.shaped (.str x) = true := by simp [SeqAt.shaped, PyData.canLay0, PyData.depth, hx]
  have h2 : SeqAt.shaped (.str y) = true := by simp [SeqAt.shaped, PyData.canLay0, PyData.depth, hy]
  rw [h1, h2]
  rfl
def wordB (d : PyData) (w : Str) : Bool := match d with
  | .str x => x == w
  | _ => false
theorem f_is_word_eq {d : PyData} (h : Lay d) {w : Str} (hw : PyData.strOk w = true) (D : Dw) : f_is_word [d, .str w] D = .ok (.bool (wordB d w)) D := by
  cases d with
  | str x => simp [f_is_word, b_is_word, isi_str h.noErr, isStrD, eqS h.str hw, wordB]
  | _ => simp [f_is_word, b_is_word, isi_str h.noErr, isStrD, wordB]
def taggedB (d : PyData) (w : Str) (n : Nat) : Bool := match d with
  | .tuple (x :: r) => decide (r.length + 1 = n) && wordB x w
  | _ => false
theorem f_is_tagged_eq {d : PyData} (h : Lay d) {w : Str} (hw : PyData.strOk w = true) (n : Nat) (hn : 0 < n) (D : Dw) : f_is_tagged [d, .str w, .int n] D = .ok (.bool (taggedB d w n)) D := by
  cases d with
  | tuple xs =>
    cases xs with
    | nil =>
      have : ((0 : Int) == (n : Int)) = false := by simp; omega
      simp [f_is_tagged, b_is_tagged, this, taggedB]
    | cons x r =>
      have e := f_is_word_eq (h.tup x List.mem_cons_self) hw
      by_cases hl : r.length + 1 = n
      · have : (((r.length : Int) + 1) == (n : Int)) = true := by simp; omega
        simp [f_is_tagged, b_is_tagged, this, taggedB, e, hl]
      · have : (((r.length : Int) + 1) == (n : Int)) = false := by simp; omega
        simp [f_is_tagged, b_is_tagged, this, taggedB, hl]
  | _ => simp [f_is_tagged, b_is_tagged, isi_tuple h.noErr, isTupD, taggedB]
def stepB (d : PyData) (many : Int) : Bool := match d with
  | .tuple [w, c] => wordB w "cell" && inR c 0 63
  | .tuple [w, .int a, b] => wordB w "copy" && (inR (.int a) 0 many && inR b 1 (many - a))
  | _ => false
theorem ok_cell : PyData.strOk "cell" = true := by decide +kernel
theorem ok_copy : PyData.strOk "copy" = true := by decide +kernel
theorem f_is_step_eq {d : PyData} (h : Lay d) (many : Int) (D : Dw) : f_is_step [d, .int many] D = .ok (.bool (stepB d many)) D := by
  have e1 := fun D => f_is_tagged_eq h ok_cell 2 (by decide) D
  have e2 := fun D => f_is_tagged_eq h ok_copy 3 (by decide) D
  have e1 : ∀ D, f_is_tagged [d, .str "cell", .int 2] D = .ok (.bool (taggedB d "cell" 2)) D := e1
  have e2 : ∀ D, f_is_tagged [d, .str "copy", .int 3] D = .ok (.bool (taggedB d "copy" 3)) D := e2
  cases d with
  | tuple xs =>
    match xs with
    | [] => simp [f_is_step, b_is_step, e1, e2, taggedB, stepB]
    | [a] => simp [f_is_step, b_is_step, e1, e2, taggedB, stepB]
    | [w, c] =>
      have ec := f_is_cell_eq c (h.tup c (by simp)).noErr
      cases hw : wordB w "cell" <;> simp [f_is_step, b_is_step, e1, e2, taggedB, stepB, hw, ec]
    | [w, a, b] =>
      have ea := f_within_eq a (h.tup a (by simp)).noErr
      have eb := f_within_eq b (h.tup b (by simp)).noErr
      cases hw : wordB w "copy"
      · cases a <;> simp [f_is_step, b_is_step, e1, e2, taggedB, stepB, hw]
      · cases a with
        | int i =>
          cases hi : inR (.int i) 0 many <;> simp [f_is_step, b_is_step, e1, e2, taggedB, stepB, hw, ea, eb, hi]
        | _ => simp [f_is_step, b_is_step, e1, e2, taggedB, stepB, hw, ea, inR]
    | a :: b :: c :: d :: r => simp [f_is_step, b_is_step, e1, e2, taggedB, stepB]
  | _ => simp [f_is_step, b_is_step, e1, e2, taggedB, stepB]
end K78
set_option Elab.async false
set_option linter.all false
set_option maxRecDepth 100000
set_option maxHeartbeats 2000000
namespace K78
open PySem PySem.Spec PyProof.Rows L2 Kb Fx
variable [Nm]
/-! ### runs of cells as texts -/
def signs : Str := "ABCDEFGHIJKLMNOPQRSTUVWXYZabcdefghijklmnopqrstuvwxyz0123456789+-"
def sgn (c : Int) : Nat := signs.cps.toList.getD c.toNat 0
def tx (cs : List Int) : Str := ⟨(cs.map sgn).toArray⟩
def C63 (cs : List Int) : Prop := ∀ c ∈ cs, 0 ≤ c ∧ c ≤ 63
theorem signs_len : signs.cps.toList.length = 64 := by decide +kernel
theorem signs_nodup : signs.cps.toList.Nodup := by decide +kernel
theorem signs_size : signs.length ≤ sizeLine := by
  rw [sizeLine_eq]
  have : signs.length = 64 := by decide +kernel
  omega
theorem sgn_get {c : Int} (h : 0 ≤ c ∧ c ≤ 63) : atI signs.cps.toList c = some (sgn c) := by
  obtain ⟨n, rfl⟩ : ∃ n : Nat, c = n := ⟨c.toNat, by omega⟩
  have hn : n < signs.cps.toList.length := by rw [signs_len]; omega
  rw [at_nat]
  unfold sgn
  rw [List.getD_eq_getElem?_getD, Int.toNat_natCast, List.getElem?_eq_getElem hn]
  rfl
theorem sgn_inj {a b : Int} (ha : 0 ≤ a ∧ a ≤ 63) (hb : 0 ≤ b ∧ b ≤ 63) (h : sgn a = sgn b) : a = b := by
  have h1 := sgn_get ha
  have h2 := sgn_get hb
  obtain ⟨n, rfl⟩ : ∃ n : Nat, a = n := ⟨a.toNat, by omega⟩
  obtain ⟨m, rfl⟩ : ∃ n : Nat, b = n := ⟨b.toNat, by omega⟩
  rw [at_nat] at h1 h2
  rw [h] at h1
  have hn : n < signs.cps.toList.length := by rw [signs_len]; omega
  have := (List.getElem?_inj hn signs_nodup).mp (h1.trans h2.symm)
  rw [this]
theorem tx_len (cs : List Int) : (tx cs).length = cs.length := by simp [tx, Str.length]
theorem tx_list (cs : List Int) : (tx cs).cps.toList = cs.map sgn := by simp [tx]
theorem map_inj {cs ds : List Int} (h1 : C63 cs) (h2 : C63 ds) (h : cs.map sgn = ds.map sgn) : cs = ds := by
  induction cs generalizing ds with
  | nil => cases ds with
    | nil => rfl
    | cons d r => cases h
  | cons c r ih =>
    cases ds with
    | nil => cases h
    | cons d s =>
      injection h with e1 e2
      rw [sgn_inj (h1 c List.mem_cons_self) (h2 d List.mem_cons_self) e1, ih (fun x m => h1 x (List.mem_cons_of_mem _ m)) (fun x m => h2 x (List.mem_cons_of_mem _ m)) e2]
theorem C63.drop {cs : List Int} (h : C63 cs) (n : Nat) : C63 (cs.drop n) := fun c m => h c (List.mem_of_mem_drop m)
theorem C63.take {cs : List Int} (h : C63 cs) (n : Nat) : C63 (cs.take n) := fun c m => h c (List.mem_of_mem_take m)
/-- whether a run stands in another -/
def inB (a b : List Int) : Bool := decide (∃ i, i ≤ b.length ∧ i + a.length ≤ b.length ∧ (b.drop i).take a.length = a)
theorem inB_iff {a b : List Int} : inB a b = true ↔ a <:+: b := by
  unfold inB
  rw [decide_eq_true_iff]
  constructor
  · rintro ⟨i, _, h1, h2⟩
    rw [← h2]
    exact (List.take_prefix _ _).isInfix.trans (List.drop_suffix _ _).isInfix
  · rintro ⟨x, y, rfl⟩
    refine ⟨x.length, by simp, by simp, ?_⟩
    rw [List.append_assoc, List.drop_left, List.take_left]
theorem occ_tx {a b : List Int} (ha : C63 a) (hb : C63 b) : (!(Builtin.Str.occurrences (tx b) (tx a) 0 (tx b).length 1).isEmpty) = inB a b := by
  rw [Bool.eq_iff_iff, StrLaws.found_iff]
  unfold inB
  rw [decide_eq_true_iff, tx_len, tx_len]
  constructor
  · rintro ⟨i, h1, h2⟩
    rw [StrLaws.subAt_eq, beq_iff_eq, tx_list, tx_list, tx_len, ← List.map_drop, ← List.map_take] at h2
    exact ⟨i, by omega, h1, map_inj ((hb.drop i).take _) ha h2⟩
  · rintro ⟨i, _, h1, h2⟩
    refine ⟨i, h1, ?_⟩
    rw [StrLaws.subAt_eq, beq_iff_eq, tx_list, tx_list, tx_len, ← List.map_drop, ← List.map_take, h2]
theorem in_tx {a b : List Int} (ha : C63 a) (hb : C63 b) : gIn (.str (tx a)) (.str (tx b)) = some (.bool (inB a b)) := by
  show Option.map PyData.bool (some (!(Builtin.Str.occurrences (tx b) (tx a) 0 (tx b).length 1).isEmpty)) = _
  rw [occ_tx ha hb]
  rfl
theorem cut_tx (cs : List Int) (a b : Nat) : cutS (tx cs) (some (a : Int)) (some (b : Int)) = tx ((cs.drop a).take (b - a)) := by
  rw [cutS_nat, tx_list]
  unfold tx
  rw [List.map_take, List.map_drop]
def intsD (cs : List Int) : List PyData := cs.map PyData.int
theorem intsD_len (cs : List Int) : (intsD cs).length = cs.length := List.length_map _
theorem C63.all {cs : List Int} (h : C63 cs) : (intsD cs).all (fun x => inR x 0 63) = true := by
  rw [List.all_eq_true]
  intro x m
  obtain ⟨c, hc, rfl⟩ := List.mem_map.mp m
  have := h c hc
  simp [inR, this]
theorem strs_of : ∀ cs : List Int, strsOf (cs.map fun c => PyData.str ⟨#[sgn c]⟩) = some (cs.map fun c => (⟨#[sgn c]⟩ : Str))
  | [] => rfl
  | c :: r => by
    show ((strsOf (r.map fun c => PyData.str ⟨#[sgn c]⟩)).map ((⟨#[sgn c]⟩ : Str) :: ·)) = _
    rw [strs_of r]; rfl
theorem join_of : ∀ cs : List Int, Str.join "" (cs.map fun c => (⟨#[sgn c]⟩ : Str)) = tx cs
  | [] => rfl
  | [c] => rfl
  | c :: d :: r => by
    show (⟨#[sgn c]⟩ : Str) ++ ("" : Str) ++ Str.join "" ((d :: r).map fun c => (⟨#[sgn c]⟩ : Str)) = _
    rw [join_of (d :: r)]
    show (⟨(#[sgn c] ++ (Str.ofString "").cps) ++ ((d :: r).map sgn).toArray⟩ : Str) = ⟨((c :: d :: r).map sgn).toArray⟩
    have e : (Str.ofString "").cps = #[] := by decide +kernel
    rw [e]
    simp
theorem f_text_of_eq {d : PyData} {cs : List Int} (hd : seqOf d = some (intsD cs)) (h : C63 cs) (hl : cs.length ≤ 100000) (D : Dw) : f_text_of [d] D = .ok (.str (tx cs)) D := by
  have hne : isErrD d = false := by cases d <;> first | rfl | cases hd
  have e1 : ∀ D, f_are_cells [d] D = .ok (.bool true) D := fun D => by
    rw [f_are_cells_eq d hne (fun xs hx => ?_)]
    · unfold cellsB
      rw [hd]
      simp only [h.all]
    · rw [hd] at hx
      cases hx
      rw [intsD_len]
      refine ⟨by omega, fun x m => ?_⟩
      obtain ⟨c, hc, rfl⟩ := List.mem_map.mp m
      rfl
  have lc : ∀ (y z : Option Fx.T) , Ev.lcLoop [y, z] (Gv.name 1) Ev.yes (Ev.o2 gIx (Ev.c k_SIGNS) (Ev.var 1)) (intsD cs) D = .ok ((intsD cs).map fun x => match x with | .int c => .str ⟨#[sgn c]⟩ | _ => .none) D := fun y z => by
    refine lc_map _ D _ fun x m => ?_
    obtain ⟨c, hc, rfl⟩ := List.mem_map.mp m
    refine ⟨_, rfl, rfl, ?_⟩
    have hs : k_SIGNS = .str signs := rfl
    simp [hs, signs_size, sgn_get (h c hc)]
  have em : ((intsD cs).map fun x => match x with | .int c => PyData.str ⟨#[sgn c]⟩ | _ => .none) = cs.map fun c => PyData.str ⟨#[sgn c]⟩ := by
    unfold intsD
    rw [List.map_map]
    rfl
  have hj : gJoin "" (.list (cs.map fun c => PyData.str ⟨#[sgn c]⟩)) = some (.str (tx cs)) := by
    show (strsOf (cs.map fun c => PyData.str ⟨#[sgn c]⟩)).bind _ = _
    rw [strs_of]
    have e0 : (("" : Str).length) = 0 := by decide +kernel
    have e2 : (List.map (fun x => x.length) (List.map (fun c => (⟨#[sgn c]⟩ : Str)) cs)).sum = cs.length := by
      rw [List.map_map]
      clear hl h hd lc em
      induction cs with
      | nil => rfl
      | cons c r ih => simp only [List.map_cons, List.sum_cons, ih, List.length_cons, Function.comp]; show 1 + r.length = _; omega
    simp only [Option.bind_some, e0, Nat.mul_zero, Nat.add_zero, e2, if_pos (show cs.length ≤ 16777216 by omega)]
    exact congrArg (fun z => some (PyData.str z)) ((StrLaws.glued_eq_join _ _).trans (join_of cs))
  have it : ∀ (ρ : Fx.Env) (h0 : ρ[0]? = some (some (.d d))), Iv.items (Ev.dat 0) ρ D = .ok (intsD cs) D := fun ρ h0 => by
    cases d with
    | list xs => cases hd; simp [h0]
    | tuple xs => cases hd; simp [h0]
    | _ => cases hd
  have hlen : (intsD cs).length < 10000000 := by rw [intsD_len]; omega
  have it1 : Iv.items (Ev.dat 0) [some (.d d), none] D = .ok (intsD cs) D := it _ rfl
  simp [-i_items, f_text_of, b_text_of, e1, it1, hlen, Ev.noOwn, wipeE, lc, em, hj]
theorem f_stands_eq {a b : List Int} (ha : C63 a) (hb : C63 b) (la : a.length ≤ 100000) (lb : b.length ≤ 100000) (s m : Nat) (D : Dw) :
    f_stands [.str (tx b), .str (tx a), .int s, .int m] D = .ok (.bool (decide (s + m ≤ a.length) && inB ((a.drop s).take m) b)) D := by
  have l1 : a.length ≤ sizeLine := by rw [sizeLine_eq]; omega
  have e : cutS (tx a) (some (s : Int)) (some ((s : Int) + m)) = tx ((a.drop s).take m) := by
    have := cut_tx a s (s + m)
    rw [Nat.add_sub_cancel_left] at this
    exact this
  have ei := in_tx ((ha.drop s).take m) hb
  by_cases hs : s + m ≤ a.length
  · have hs' : (s : Int) + m ≤ a.length := by omega
    simp [f_stands, b_stands, l1, tx_len, hs', hs, e, ei]
  · have hs' : ¬ (s : Int) + m ≤ a.length := by omega
    simp [f_stands, b_stands, l1, tx_len, hs', hs]
end K78
set_option Elab.async false
set_option linter.all false
set_option maxRecDepth 100000
set_option maxHeartbeats 2000000
namespace K78
open PySem PySem.Spec PyProof.Rows L2 Kb Fx
variable [Nm]
/-! ### as much as stands in the whole -/
def stB (b a : List Int) (s m : Nat) : Bool := decide (s + m ≤ a.length) && inB ((a.drop s).take m) b
theorem stB_le {b a : List Int} {s m : Nat} (h : stB b a s m = true) : s + m ≤ a.length := of_decide_eq_true (Bool.and_eq_true_iff.mp h).1
theorem stB_mono {b a : List Int} {s m k : Nat} (h : stB b a s m = true) (hk : k ≤ m) : stB b a s k = true := by
  have h1 := stB_le h
  have h2 := inB_iff.mp (Bool.and_eq_true_iff.mp h).2
  unfold stB
  rw [Bool.and_eq_true, decide_eq_true_iff]
  refine ⟨by omega, inB_iff.mpr ?_⟩
  have e : (a.drop s).take k = ((a.drop s).take m).take k := by rw [List.take_take, Nat.min_eq_left hk]
  rw [e]
  exact (List.take_prefix _ _).isInfix.trans h2
theorem stB_zero {b a : List Int} {s : Nat} (h : s ≤ a.length) : stB b a s 0 = true := by
  unfold stB
  rw [Bool.and_eq_true, decide_eq_true_iff]
  exact ⟨h, inB_iff.mpr (by rw [List.take_zero]; exact List.nil_infix)⟩
section
variable {a b : List Int} (ha : C63 a) (hb : C63 b) (la : a.length ≤ 100000) (lb : b.length ≤ 100000)
abbrev en5 (b a : List Int) (s g m : Nat) : Fx.Env := [some (.d (.str (tx b))), some (.d (.str (tx a))), some (.d (.int s)), some (.d (.int g)), some (.d (.int m))]
include ha hb la lb
theorem stands_at (s m : Nat) (D : Dw) : f_stands [.str (tx b), .str (tx a), .int s, .int m] D = .ok (.bool (stB b a s m)) D := f_stands_eq ha hb la lb s m D
theorem t3_eq (s g m : Nat) (D : Dw) : t_longest_3 (en5 b a s g m) D = .ok (stB b a s (g + m)) D := by
  have e := stands_at ha hb la lb s (g + m) D
  rw [show ((g + m : Nat) : Int) = (g : Int) + m by omega] at e
  simp [t_longest_3, e]
theorem w4_eq (s g m : Nat) (D : Dw) : w_longest_4 (en5 b a s g m) D = .ok (.nx, en5 b a s (g + m) (2 * m)) D := by
  have hm : gMul 2 (m : Int) = some (.int (2 * (m : Int))) := by
    unfold gMul
    rw [if_pos (by rfl)]
  simp [w_longest_4, hm]
theorem t1_eq (s g m : Nat) (D : Dw) : t_longest_1 (en5 b a s g m) D = .ok (decide (1 < m)) D := by
  simp [t_longest_1]
  omega
theorem w2_eq (s g m : Nat) (D : Dw) : w_longest_2 (en5 b a s g m) D = .ok (.nx, if stB b a s (g + m / 2) = true then en5 b a s (g + m / 2) (m / 2) else en5 b a s g (m / 2)) D := by
  have e := stands_at ha hb la lb s (g + m / 2) D
  have hd : gDiv (m : Int) 2 = some (.int ((m / 2 : Nat) : Int)) := by
    unfold gDiv
    rw [if_pos (by decide)]
    rfl
  have hc : ((g : Int) + ((m / 2 : Nat) : Int)) = ((g + m / 2 : Nat) : Int) := by omega
  cases hs : stB b a s (g + m / 2) <;> rw [hs] at e <;> simp only [w_longest_2, s_seq, s_set, e_o2, e_var, e_c, List.getElem?_cons_succ, List.getElem?_cons_zero, view_d, ofO_some, bind_ok, x_gI, hd, List.set_cons_succ, List.set_cons_zero, s_ite, e_tt, e_call0, e_cons, e_dat, e_nil, x_add, hc, List.length_cons, List.length_nil, if_true, e, x_tb, Bool.false_eq_true, if_false, s_skip, s_aug] <;> rfl
theorem longest_spec (s : Nat) (hs : s ≤ a.length) (D : Dw) : ∃ g : Nat, f_longest [.str (tx b), .str (tx a), .int s] D = .ok (.int g) D ∧ stB b a s g = true ∧ stB b a s (g + 1) = false := by
  obtain ⟨ρ1, D1, e1, g1, k1, rfl, rfl, h1, h2⟩ := Fx.while_inv (t := t_longest_3) (f := w_longest_4) (R_ := fun ρ D' => ∃ g k, D' = D ∧ ρ = en5 b a s g (2 ^ k) ∧ stB b a s g = true ∧ stB b a s (g + 2 ^ k) = false)
    (fun n ρ D' => ∃ g k, D' = D ∧ ρ = en5 b a s g (2 ^ k) ∧ stB b a s g = true ∧ n = a.length - g) (fun n ρ D' ⟨g, k, hD, hρ, h1, hn⟩ => by
      subst hD hρ
      rw [t3_eq ha hb la lb]
      cases q : stB b a s (g + 2 ^ k) with
      | false => exact .inl ⟨rfl, g, k, rfl, rfl, h1, q⟩
      | true =>
        have := stB_le q
        have hp : 0 < 2 ^ k := Nat.pow_pos (by decide)
        refine .inr ⟨rfl, _, D', a.length - (g + 2 ^ k), w4_eq ha hb la lb s g (2 ^ k) D', by omega, g + 2 ^ k, k + 1, rfl, ?_, q, rfl⟩
        rw [Nat.pow_succ, Nat.mul_comm]) (a.length - 0) (en5 b a s 0 (2 ^ 0)) D ⟨0, 0, rfl, rfl, stB_zero hs, rfl⟩
  obtain ⟨ρ2, D2, e2, g2, rfl, rfl, h3, h4⟩ := Fx.while_inv (t := t_longest_1) (f := w_longest_2) (R_ := fun ρ D' => ∃ g, D' = D1 ∧ ρ = en5 b a s g (2 ^ 0) ∧ stB b a s g = true ∧ stB b a s (g + 1) = false)
    (fun n ρ D' => ∃ g, D' = D1 ∧ ρ = en5 b a s g (2 ^ n) ∧ stB b a s g = true ∧ stB b a s (g + 2 ^ n) = false) (fun n ρ D' ⟨g, hD, hρ, h1, h2⟩ => by
      subst hD hρ
      rw [t1_eq ha hb la lb]
      cases n with
      | zero => exact .inl ⟨rfl, g, rfl, rfl, h1, h2⟩
      | succ n =>
        have hp : 0 < 2 ^ n := Nat.pow_pos (by decide)
        have hq : 2 ^ (n + 1) / 2 = 2 ^ n := by rw [Nat.pow_succ]; omega
        have hw := w2_eq ha hb la lb s g (2 ^ (n + 1)) D'
        rw [hq] at hw
        refine .inr ⟨by rw [decide_eq_true (by rw [Nat.pow_succ]; omega)], _, D', n, hw, by omega, ?_⟩
        cases q : stB b a s (g + 2 ^ n) with
        | false => exact ⟨g, rfl, if_neg (by simp), h1, q⟩
        | true =>
          refine ⟨g + 2 ^ n, rfl, if_pos rfl, q, ?_⟩
          rw [show g + 2 ^ n + 2 ^ n = g + 2 ^ (n + 1) by rw [Nat.pow_succ]; omega]
          exact h2) k1 (en5 b a s g1 (2 ^ k1)) D1 ⟨g1, rfl, rfl, h1, h2⟩
  refine ⟨g2, ?_, h3, h4⟩
  have e1 : Sv.while_ t_longest_3 w_longest_4 [some (.d (.str (tx b))), some (.d (.str (tx a))), some (.d (.int s)), some (.d (.int 0)), some (.d (.int 1))] D2 = .ok (.nx, en5 b a s g1 (2 ^ k1)) D2 := e1
  simp [f_longest, b_longest, e1, e2]
end
end K78
set_option Elab.async false
set_option linter.all false
set_option maxRecDepth 100000
set_option maxHeartbeats 2000000
namespace K78
open PySem PySem.Spec PyProof.Rows L2 Kb Fx
variable [Nm]
def prN (p : Nat × Nat) : PyData := .tuple [.int p.1, .int p.2]
structure Seg (b a : List Int) (u v : Nat) : Prop where
  lt : u < v
  le : v ≤ a.length
  st : v = u + 1 ∨ stB b a u (v - u) = true
  no : v < a.length → stB b a u (v + 1 - u) = false
def Ch (b a : List Int) : Nat → List (Nat × Nat) → Nat → Prop
  | x, [], s => x = s
  | x, (u, v) :: r, s => u = x ∧ Seg b a u v ∧ Ch b a v r s
theorem Ch.snoc {b a : List Int} {v : Nat} : ∀ {ps : List (Nat × Nat)} {x s : Nat}, Ch b a x ps s → Seg b a s v → Ch b a x (ps ++ [(s, v)]) v
  | [], x, s, h, g => ⟨h.symm, g, rfl⟩
  | (u, w) :: r, x, s, ⟨h1, h2, h3⟩, g => ⟨h1, h2, h3.snoc g⟩
theorem Ch.len {b a : List Int} : ∀ {ps : List (Nat × Nat)} {x s : Nat}, Ch b a x ps s → x + ps.length ≤ s
  | [], x, s, h => by have h : x = s := h; simp; omega
  | (u, w) :: r, x, s, ⟨h1, h2, h3⟩ => by
    have := h3.len
    have := h2.lt
    simp only [List.length_cons]
    omega
section
variable {a b : List Int} (ha : C63 a) (hb : C63 b) (la : a.length ≤ 100000) (lb : b.length ≤ 100000)
abbrev enP (b a : List Int) (ps : List (Nat × Nat)) (s : Nat) (z : Option Fx.T) : Fx.Env := [some (.d (.str (tx b))), some (.d (.str (tx a))), some (.l (ps.map prN)), some (.d (.int s)), z]
include ha hb la lb
theorem parts_spec (D : Dw) : ∃ ps, f_parts_of [.str (tx b), .str (tx a)] D = .ok (.list (ps.map prN)) D ∧ Ch b a 0 ps a.length := by
  have l1 : a.length ≤ sizeLine := by rw [sizeLine_eq]; omega
  obtain ⟨ρ1, D1, e1, ps, z, rfl, rfl, h1⟩ := Fx.while_inv (t := t_parts_of_1) (f := w_parts_of_2) (R_ := fun ρ D' => ∃ ps z, D' = D ∧ ρ = enP b a ps a.length z ∧ Ch b a 0 ps a.length)
    (fun n ρ D' => ∃ ps s z, D' = D ∧ ρ = enP b a ps s z ∧ Ch b a 0 ps s ∧ s ≤ a.length ∧ n = a.length - s) (fun n ρ D' ⟨ps, s, z, hD, hρ, h1, h2, hn⟩ => by
      subst hD hρ
      have et : t_parts_of_1 (enP b a ps s z) D' = .ok (decide (s < a.length)) D' := by
        simp [t_parts_of_1, tx_len, l1]
      rw [et]
      by_cases hs : s < a.length
      · obtain ⟨g, eg, g1, g2⟩ := longest_spec ha hb la lb s h2 D'
        refine .inr ⟨by rw [decide_eq_true hs], ?_⟩
        have lps := h1.len
        have lps2 : (ps.map prN).length < 10000000 := by rw [List.length_map]; omega
        obtain ⟨v, hv⟩ : ∃ v, v = s + (if g > 1 then g else 1) := ⟨_, rfl⟩
        have hv' : (s : Int) + (if (g : Int) > 1 then (g : Int) else 1) = (v : Int) := by
          rw [hv]
          split <;> split <;> omega
        have sg : Seg b a s v := by
          have gl := stB_le g1
          by_cases hg : g > 1
          · rw [if_pos hg] at hv
            subst hv
            exact ⟨by omega, by omega, .inr (by rw [Nat.add_sub_cancel_left]; exact g1), fun _ => by rw [show s + g + 1 - s = g + 1 by omega]; exact g2⟩
          · rw [if_neg hg] at hv
            subst hv
            refine ⟨by omega, by omega, .inl rfl, fun _ => ?_⟩
            rw [show s + 1 + 1 - s = 2 by omega]
            cases q : stB b a s 2 with
            | false => rfl
            | true => rw [stB_mono q (show g + 1 ≤ 2 by omega)] at g2; exact g2
        refine ⟨enP b a (ps ++ [(s, v)]) v (some (.d (.int v))), D', a.length - v, ?_, by have := sg.lt; omega, _, _, _, rfl, rfl, h1.snoc sg, sg.le, rfl⟩
        have lps3 : ps.length < 10000000 := by omega
        simp only [w_parts_of_2, s_seq, s_set, e_o2, e_dat, e_var, e_c, e_call0, e_cons, e_nil, List.getElem?_cons_succ, List.getElem?_cons_zero, view_d, ofO_some, bind_ok, List.length_cons, List.length_nil, eg, x_gI, x_max2, x_add, hv', List.set_cons_succ, List.set_cons_zero, s_append, e_tup, lps2, if_true, List.map_append]
        simp [prN]
      · refine .inl ⟨by rw [decide_eq_false hs], ps, z, rfl, ?_, ?_⟩
        · rw [show s = a.length by omega]
        · rw [show s = a.length by omega] at h1; exact h1) (a.length - 0) (enP b a [] 0 none) D ⟨[], 0, none, rfl, rfl, rfl, Nat.zero_le _, rfl⟩
  refine ⟨ps, ?_, h1⟩
  have e1 : Sv.while_ t_parts_of_1 w_parts_of_2 [some (.d (.str (tx b))), some (.d (.str (tx a))), some (.l []), some (.d (.int 0)), none] D1 = .ok (.nx, enP b a ps a.length z) D1 := e1
  simp [f_parts_of, b_parts_of, e1, own]
end
/-! ### rifts -/
theorem starts_get {b a : List Int} : ∀ {ps : List (Nat × Nat)} {x s i : Nat} {p q : Nat × Nat}, Ch b a x ps s → ps[i]? = some p → ps[i + 1]? = some q → q.1 = p.2
  | (u, v) :: (u', v') :: r, x, s, 0, p, q, ⟨_, _, h, _⟩, e1, e2 => by cases e1; cases e2; exact h
  | (u, v) :: r, x, s, i + 1, p, q, ⟨_, _, h⟩, e1, e2 => starts_get (i := i) h e1 e2
  | [(u, v)], x, s, 0, p, q, _, e1, e2 => by cases e2
  | [], x, s, i, p, q, _, e1, _ => by cases i <;> cases e1
theorem f_rifts_eq {a b : List Int} {da db : PyData} (hda : seqOf da = some (intsD a)) (hdb : seqOf db = some (intsD b)) (ha : C63 a) (hb : C63 b) (la : a.length ≤ 100000) (lb : b.length ≤ 100000) (D : Dw) :
    ∃ ps, f_rifts [db, da] D = .ok (.tuple (ps.dropLast.map prN)) D ∧ Ch b a 0 ps a.length ∧ f_parts_of [.str (tx b), .str (tx a)] D = .ok (.list (ps.map prN)) D := by
  obtain ⟨ps, ep, hc⟩ := parts_spec ha hb la lb D
  refine ⟨ps, ?_, hc, ep⟩
  have ta := f_text_of_eq hda ha la
  have tb := f_text_of_eq hdb hb lb
  have lps := hc.len
  have l1 : (ps.map prN).length < 10000000 := by rw [List.length_map]; omega
  have c1 : ∀ ρ : Fx.Env, Ev.lcLoop ρ (Gv.tup 2 (Gv.cons (Gv.name 5) (Gv.cons (Gv.name 6) Gv.nil))) Ev.yes (Ev.dat 5) (ps.map prN) D = .ok (ps.map fun p => PyData.int p.1) D ∨ ρ.length ≠ 8 := fun ρ => by
    by_cases hρ : ρ.length = 8
    · left
      have := lc_map (ρ := ρ) (g := Gv.tup 2 (Gv.cons (Gv.name 5) (Gv.cons (Gv.name 6) Gv.nil))) (t := Ev.yes) (a := Ev.dat 5) (fun d => match d with | .tuple (x :: _) => x | _ => .none) D (ps.map prN) (fun d m => by
        obtain ⟨p, _, rfl⟩ := List.mem_map.mp m
        refine ⟨(ρ.set 5 (some (.d (.int p.1)))).set 6 (some (.d (.int p.2))), rfl, rfl, ?_⟩
        have : ((ρ.set 5 (some (Fx.T.d (.int p.1)))).set 6 (some (.d (.int p.2))))[5]? = some (some (.d (.int p.1))) := by
          rw [List.getElem?_set_ne (by decide), List.getElem?_set_self (by omega)]
        rw [e_dat, this]
        rfl)
      rw [this, List.map_map]
      rfl
    · exact .inr hρ
  obtain ⟨n, hn⟩ : ∃ n, n = ps.length - 1 := ⟨_, rfl⟩
  have c2 : ∀ (w0 w1 w2 w3 w5 w6 w7 : Option Fx.T), Ev.lcLoop [w0, w1, w2, w3, some (.d (.list (ps.map fun p => PyData.int p.1))), w5, w6, w7] (Gv.name 7) Ev.yes e_rifts_1 ((List.range n).map fun (i : Nat) => .int (i : Int)) D = .ok (ps.dropLast.map prN) D := fun w0 w1 w2 w3 w5 w6 w7 => by
    rw [lc_map (fun d => match d with | .int i => prN (ps.getD i.toNat (0, 0)) | _ => .none) D _ fun d m => ?_]
    · congr 1
      rw [List.map_map]
      refine List.ext_getElem (by simp [hn]) fun i h1 h2 => ?_
      have hi : i < ps.length := by simp at h1; omega
      simp [hi]
    · obtain ⟨i, mi, rfl⟩ := List.mem_map.mp m
      have hi := List.mem_range.mp mi
      refine ⟨_, rfl, rfl, ?_⟩
      have i1 : i < ps.length := by omega
      have i2 : i + 1 < ps.length := by omega
      have g1 : ps[i]? = some ps[i] := List.getElem?_eq_getElem i1
      have g2 : ps[i + 1]? = some ps[i + 1] := List.getElem?_eq_getElem i2
      have hq := starts_get hc g1 g2
      have a1 : atI (ps.map fun p => PyData.int p.1) (i : Int) = some (.int ps[i].1) := by rw [at_nat, List.getElem?_map, g1]; rfl
      have a2 : atI (ps.map fun p => PyData.int p.1) ((i : Int) + 1) = some (.int ps[i].2) := by
        have := at_nat (ps.map fun p => PyData.int p.1) (i + 1)
        rw [List.getElem?_map, g2] at this
        rw [show ((i : Int) + 1) = ((i + 1 : Nat) : Int) by omega, this, ← hq]
        rfl
      simp [e_rifts_1, a1, a2, i1, prN]
  have hr : Iv.range1 (Ev.o2 (gI fun i j => some (.int (i - j))) (Ev.u1 lenD (Ev.var 4)) (Ev.c (.int 1))) [some (.d db), some (.d da), some (.d (.str (tx b))), some (.d (.str (tx a))), some (.d (.list (ps.map fun p => PyData.int p.1))), none, none, none] D = .ok ((List.range n).map fun (i : Nat) => .int (i : Int)) D := by
    have h1 : ((ps.length : Int) - 1 < 10000000 ∧ -10000000 < (ps.length : Int) - 1) := by omega
    have h2 : ((ps.length : Int) - 1).toNat = n := by omega
    simp [h1, h2]
  have c1' := c1 [some (.d db), some (.d da), some (.d (.str (tx b))), some (.d (.str (tx a))), none, none, none, none]
  have c1' := c1'.resolve_right (by simp)
  have l2 : ps.length < 10000000 := by omega
  have ln2 : n < 10000000 := by omega
  have ln : ((List.range n).map fun (i : Nat) => PyData.int (i : Int)).length < 10000000 := by simp; omega
  simp [-i_range1, f_rifts, b_rifts, ta, tb, ep, l1, l2, ln2, Ev.noOwn, wipeE, c1', hr, ln, own, c2]
end K78
set_option Elab.async false
set_option linter.all false
set_option maxRecDepth 100000
set_option maxHeartbeats 2000000
namespace K78
open PySem PySem.Spec PyProof.Rows L2 Kb Fx
variable [Nm]
/-! ### is_tuple_of -/
def tupAll (p : PyData → Bool) (d : PyData) : Bool := match d with
  | .tuple xs => xs.all p
  | _ => false
theorem itof_e {F : List PyData → List PyData → Dw → R PyData} {cs : List PyData} {p : PyData → Bool} {y : Option Fx.T} (x : PyData) (D : Dw) (h : F cs [x] D = .ok (.bool (p x)) D) : e_is_tuple_of_1L F [y, some (.cl cs), some (.d x)] D = .ok (.bool (p x)) D := by
  simp [e_is_tuple_of_1L, h]
theorem itof_loop {F : List PyData → List PyData → Dw → R PyData} {cs : List PyData} {p : PyData → Bool} {y : Option Fx.T} (D : Dw) : ∀ xs : List PyData, (∀ x ∈ xs, F cs [x] D = .ok (.bool (p x)) D) → Ev.allLoop false [y, some (.cl cs), none] (Gv.name 2) (e_is_tuple_of_1L F) xs D = .ok (.bool (xs.all p)) D
  | [], _ => rfl
  | x :: r, h => by
    have ih := itof_loop (y := y) D r fun z m => h z (List.mem_cons_of_mem _ m)
    unfold Ev.allLoop
    cases q : p x <;> simp [itof_e (p := p) x D (h x List.mem_cons_self), q, ih]
theorem f_itof_eq {F : List PyData → List PyData → Dw → R PyData} {cs : List PyData} (p : PyData → Bool) {d : PyData} (h : isErrD d = false) (D : Dw) (hx : ∀ xs, d = .tuple xs → xs.length < 10000000 ∧ ∀ x ∈ xs, F cs [x] D = .ok (.bool (p x)) D) : f_is_tuple_of__L F cs [d] D = .ok (.bool (tupAll p d)) D := by
  cases d with
  | tuple xs =>
    obtain ⟨h1, h2⟩ := hx xs rfl
    simp [f_is_tuple_of__L, b_is_tuple_of__L, h1, itof_loop D xs h2, tupAll]
  | _ => simp [f_is_tuple_of__L, b_is_tuple_of__L, isi_tuple h, isTupD, tupAll]
/-! ### patches -/
inductive Stp where
  | cell (c : Nat)
  | copy (at_ many : Nat)
def stD : Stp → PyData
  | .cell c => .tuple [.str "cell", .int c]
  | .copy a m => .tuple [.str "copy", .int a, .int m]
def StOk (n : Nat) : Stp → Prop
  | .cell c => c ≤ 63
  | .copy a m => a + m ≤ n ∧ 1 ≤ m
def segOf (b : List Int) : Stp → List Int
  | .cell c => [(c : Int)]
  | .copy a m => (b.drop a).take m
theorem lay_st (s : Stp) : Lay (stD s) := by
  cases s <;> simp [stD, Lay, PyData.canLay0, PyData.canLayAll0, ok_cell, ok_copy]
theorem stepB_ok {n : Nat} {s : Stp} (h : StOk n s) : stepB (stD s) n = true := by
  cases s with
  | cell c =>
    have h : c ≤ 63 := h
    simp [stD, stepB, wordB, inR]
    omega
  | copy a m =>
    obtain ⟨h1, h2⟩ := h
    simp [stD, stepB, wordB, inR]
    omega
theorem lay_ints (cs : List Int) : Lay (.list (intsD cs)) ∧ Lay (.tuple (intsD cs)) := by
  have : PyData.canLayAll0 (intsD cs) = true := by
    induction cs with
    | nil => rfl
    | cons c r ih =>
      show (true && PyData.canLayAll0 (intsD r)) = true
      rw [ih]; rfl
  exact ⟨by simp [Lay, PyData.canLay0, this], by simp [Lay, PyData.canLay0, this]⟩
theorem are_ints {b : List Int} (hb : C63 b) (lb : b.length ≤ 100000) (D : Dw) : f_are_cells [.list (intsD b)] D = .ok (.bool true) D := by
  rw [f_are_cells_eq _ rfl (fun xs hx => ?_)]
  · simp only [cellsB, seqOf, hb.all]
  · cases hx
    rw [intsD_len]
    refine ⟨by omega, fun x m => ?_⟩
    obtain ⟨c, hc, rfl⟩ := List.mem_map.mp m
    rfl
theorem patch_test {b : List Int} {d : PyData} (h : Lay d) (hl : ∀ xs, d = .tuple xs → xs.length < 10000000) (D : Dw) : f_is_tuple_of__L fL_patched_1 [.list (intsD b)] [d] D = .ok (.bool (tupAll (fun x => stepB x b.length) d)) D :=
  f_itof_eq _ h.noErr D fun xs e => ⟨hl xs e, fun x m => by
    subst e
    have := f_is_step_eq (h.tup x m) (b.length : Int) D
    simp [fL_patched_1, intsD_len, this]⟩
theorem patched_bad {b : List Int} (hb : C63 b) (lb : b.length ≤ 100000) {d : PyData} (h : Lay d) (hl : ∀ xs, d = .tuple xs → xs.length < 10000000) (hf : tupAll (fun x => stepB x b.length) d = false) (D : Dw) : f_patched [.list (intsD b), d] D = .err "BadPatch" [] D := by
  have e := patch_test (b := b) h hl D
  rw [hf] at e
  simp [f_patched, b_patched, are_ints hb lb, Ev.capD, e]
def allSeg (b : List Int) (sts : List Stp) : List Int := (sts.map (segOf b)).flatten
theorem seg_le {b : List Int} {n : Nat} (s : Stp) : (segOf b s).length ≤ b.length + 1 := by
  cases s with
  | cell c => show 1 ≤ _; omega
  | copy a m =>
    show ((b.drop a).take m).length ≤ _
    rw [List.length_take, List.length_drop]
    omega
theorem allSeg_le (b : List Int) : ∀ sts : List Stp, (allSeg b sts).length ≤ sts.length * (b.length + 1)
  | [] => Nat.zero_le _
  | s :: r => by
    have := allSeg_le b r
    have := seg_le (b := b) (n := 0) s
    show (segOf b s ++ allSeg b r).length ≤ _
    rw [List.length_append, List.length_cons, Nat.add_mul]
    omega
abbrev enQ (b : List Int) (d : PyData) (acc : List Int) (z : Option Fx.T) : Fx.Env := [some (.d (.list (intsD b))), some (.d d), some (.l (intsD acc)), z]
theorem eqW {x y : Str} (hx : PyData.strOk x = true) (hy : PyData.strOk y = true) : gEq (.str x) (.str y) = some (.bool (x == y)) := eqS hx hy
theorem w_patched_eq {b : List Int} {d : PyData} {acc : List Int} (s : Stp) (hs : StOk b.length s) (hl : acc.length + b.length + 1 < 10000000) (D : Dw) : w_patched_1 (enQ b d acc (some (.d (stD s)))) D = .ok (.nx, enQ b d (acc ++ segOf b s) (some (.d (stD s)))) D := by
  have e1 : gEq (.str "cell") (.str "cell") = some (.bool true) := by rw [eqS ok_cell ok_cell]; rfl
  have e2 : gEq (.str "copy") (.str "cell") = some (.bool false) := by rw [eqS ok_copy ok_cell]; rfl
  cases s with
  | cell c =>
    have l1 : acc.length < 10000000 := by omega
    simp [w_patched_1, stD, e1, intsD_len, l1, segOf, intsD]
  | copy a m =>
    obtain ⟨h1, h2⟩ := hs
    have ec : cutD (intsD b) (some (a : Int)) (some ((a : Int) + m)) = intsD ((b.drop a).take m) := by
      have := cut_nat (intsD b) a (a + m)
      rw [Nat.add_sub_cancel_left] at this
      rw [show ((a : Int) + m) = ((a + m : Nat) : Int) by omega, this]
      unfold intsD
      rw [List.map_take, List.map_drop]
    have l1 : acc.length + ((b.drop a).take m).length < 10000000 := by
      rw [List.length_take, List.length_drop]
      omega
    have l2 : (intsD acc).length + (intsD ((b.drop a).take m)).length < 10000000 := by rw [intsD_len, intsD_len]; exact l1
    have ap : intsD acc ++ intsD ((b.drop a).take m) = intsD (acc ++ (b.drop a).take m) := by simp [intsD]
    have e3 : Ev.sl (Ev.var 0) (Ev.part (Ev.o2 gIx (Ev.var 3) (Ev.c (.int 1)))) (Ev.part (Ev.o2 gAdd (Ev.o2 gIx (Ev.var 3) (Ev.c (.int 1))) (Ev.o2 gIx (Ev.var 3) (Ev.c (.int 2))))) (enQ b d acc (some (.d (stD (.copy a m))))) D = .ok (.list (intsD ((b.drop a).take m))) D := by
      simp [stD, ec]
    have e4 : Ev.tb (Ev.o2 gEq (Ev.o2 gIx (Ev.var 3) (Ev.c (.int 0))) (Ev.c (.str "cell"))) (enQ b d acc (some (.d (stD (.copy a m))))) D = .ok false D := by
      simp [stD, e2]
    unfold w_patched_1
    rw [s_ite, e4, bind_ok, if_neg Bool.false_ne_true, s_extend]
    simp only [List.getElem?_cons_succ, List.getElem?_cons_zero, e3, bind_ok, l2, if_true, ap, List.set_cons_succ, List.set_cons_zero]
    rfl
theorem patched_good {b : List Int} (hb : C63 b) (lb : b.length ≤ 1000) {sts : List Stp} (h : ∀ s ∈ sts, StOk b.length s) (hl : sts.length ≤ 1000) (D : Dw) : f_patched [.list (intsD b), .tuple (sts.map stD)] D = .ok (.tuple (intsD (allSeg b sts))) D := by
  have lay : Lay (.tuple (sts.map stD)) := by
    have : PyData.canLayAll0 (sts.map stD) = true := by
      clear h hl
      induction sts with
      | nil => rfl
      | cons s r ih =>
        have := lay_st s
        unfold Lay at this
        show ((stD s).canLay0 && PyData.canLayAll0 (r.map stD)) = true
        rw [this, ih]; rfl
    simp [Lay, PyData.canLay0, this]
  have e := patch_test (b := b) lay (fun xs e => by cases e; rw [List.length_map]; omega) D
  have ht : tupAll (fun x => stepB x b.length) (.tuple (sts.map stD)) = true := by
    show (sts.map stD).all _ = true
    rw [List.all_eq_true]
    intro x m
    obtain ⟨s, hs, rfl⟩ := List.mem_map.mp m
    exact stepB_ok (h s hs)
  rw [ht] at e
  have lp : ∀ (r : List Stp) (acc : List Int) (z : Option Fx.T), (∀ s ∈ r, StOk b.length s) → acc.length + r.length * (b.length + 1) < 10000000 → ∃ z', Sv.loop (Gv.name 3) w_patched_1 (r.map stD) (enQ b (.tuple (sts.map stD)) acc z) D = .ok (.nx, enQ b (.tuple (sts.map stD)) (acc ++ allSeg b r) z') D := by
    intro r
    induction r with
    | nil => intro acc z _ _; exact ⟨z, by simp [allSeg, Sv.loop]⟩
    | cons s r ih =>
      intro acc z hs hn
      rw [List.length_cons, Nat.add_mul] at hn
      have hsg := seg_le (b := b) (n := 0) s
      obtain ⟨z', ez⟩ := ih (acc ++ segOf b s) (some (.d (stD s))) (fun s m => hs s (List.mem_cons_of_mem _ m)) (by rw [List.length_append]; omega)
      refine ⟨z', ?_⟩
      have ew := w_patched_eq (b := b) (d := .tuple (sts.map stD)) (acc := acc) s (hs s List.mem_cons_self) (by omega) D
      rw [List.map_cons]
      unfold Sv.loop
      rw [g_name]
      dsimp only [List.set_cons_succ, List.set_cons_zero]
      rw [ew, bind_ok]
      dsimp only
      rw [ez]
      simp [allSeg]
  obtain ⟨z', ez⟩ := lp sts [] none h (by
    have : sts.length * (b.length + 1) ≤ 1000 * 1001 := Nat.mul_le_mul hl (by omega)
    simp only [List.length_nil]
    omega)
  have ez : Sv.loop (Gv.name 3) w_patched_1 (sts.map stD) [some (.d (.list (intsD b))), some (.d (.tuple (sts.map stD))), some (.l []), none] D = .ok (.nx, enQ b (.tuple (sts.map stD)) (allSeg b sts) z') D := ez
  simp [f_patched, b_patched, are_ints hb (by omega), Ev.capD, e, ez]
end K78
set_option Elab.async false
set_option linter.all false
set_option maxRecDepth 100000
set_option maxHeartbeats 2000000
namespace K78
open PySem PySem.Spec PyProof.Rows L2 Kb Fx
variable [Nm]
/-! ### rows of rifts: both looks -/
def segB (b a : List Int) (i j : Int) : Bool := inB ((a.drop i.toNat).take (j + 1 - i).toNat) b
def rowB (b a : List Int) : Int → List PyData → Bool
  | _, [] => true
  | last, x :: r => match x with
    | .tuple [.int i, .int j] => decide (last ≤ i) && (decide (i < j) && (decide (j < a.length) && (!segB b a i j && rowB b a j r)))
    | _ => false
def pairB (n : Int) (x : PyData) : Bool := match x with
  | .tuple [.int i, .int j] => decide (0 ≤ i) && (decide (i ≤ j - 1) && decide (j < n))
  | _ => false
def ordB (b a : List Int) : Int → List PyData → Bool
  | _, [] => true
  | last, x :: r => match x with
    | .tuple [.int i, .int j] => decide (last ≤ i) && (!segB b a i j && ordB b a j r)
    | _ => false
theorem rowB_eq {b a : List Int} : ∀ (r : List PyData) (last : Int), 0 ≤ last → rowB b a last r = (r.all (pairB a.length) && ordB b a last r)
  | [], _, _ => rfl
  | x :: r, last, hl => by
    have other : ∀ {x : PyData}, pairB a.length x = false → (∀ i j, x ≠ .tuple [.int i, .int j]) → rowB b a last (x :: r) = ((x :: r).all (pairB a.length) && ordB b a last (x :: r)) := fun {x} h hn => by
      rw [List.all_cons, h, Bool.false_and, Bool.false_and]
      unfold rowB
      split
      · rename_i i j; exact absurd rfl (hn i j)
      · rfl
    match x with
    | .tuple [.int i, .int j] =>
      have ih := rowB_eq (b := b) (a := a) r j
      have r1 : rowB b a last (.tuple [.int i, .int j] :: r) = (decide (last ≤ i) && (decide (i < j) && (decide (j < a.length) && (!segB b a i j && rowB b a j r)))) := rfl
      have r2 : pairB a.length (.tuple [.int i, .int j]) = (decide (0 ≤ i) && (decide (i ≤ j - 1) && decide (j < (a.length : Int)))) := rfl
      have r3 : ordB b a last (.tuple [.int i, .int j] :: r) = (decide (last ≤ i) && (!segB b a i j && ordB b a j r)) := rfl
      rw [List.all_cons, r1, r2, r3]
      by_cases h1 : last ≤ i
      · by_cases h2 : i < j
        · by_cases h3 : j < a.length
          · rw [ih (by omega)]
            have h4 : 0 ≤ i := by omega
            have h5 : i ≤ j - 1 := by omega
            simp only [h1, h2, h3, h4, h5, decide_true, Bool.true_and]
            cases r.all (pairB a.length) <;> cases segB b a i j <;> simp
          · simp [h3]
        · have h5 : ¬ i ≤ j - 1 := by omega
          simp [h2, h5]
      · simp [h1]
    | .none => exact other rfl fun i j z => by cases z
    | .bool _ => exact other rfl fun i j z => by cases z
    | .int _ => exact other rfl fun i j z => by cases z
    | .str _ => exact other rfl fun i j z => by cases z
    | .list _ => exact other rfl fun i j z => by cases z
    | .dict _ => exact other rfl fun i j z => by cases z
    | .tuple [] => exact other rfl fun i j z => by cases z
    | .tuple [p] => exact other (by cases p <;> rfl) fun i j z => by cases z
    | .tuple (p :: q :: _ :: _) => exact other (by cases p <;> first | rfl | (cases q <;> rfl)) fun i j z => by cases z
    | .tuple [.none, _] => exact other rfl fun i j z => by cases z
    | .tuple [.bool _, _] => exact other rfl fun i j z => by cases z
    | .tuple [.str _, _] => exact other rfl fun i j z => by cases z
    | .tuple [.list _, _] => exact other rfl fun i j z => by cases z
    | .tuple [.dict _, _] => exact other rfl fun i j z => by cases z
    | .tuple [.tuple _, _] => exact other rfl fun i j z => by cases z
    | .tuple [.int _, .none] => exact other rfl fun i j z => by cases z
    | .tuple [.int _, .bool _] => exact other rfl fun i j z => by cases z
    | .tuple [.int _, .str _] => exact other rfl fun i j z => by cases z
    | .tuple [.int _, .list _] => exact other rfl fun i j z => by cases z
    | .tuple [.int _, .dict _] => exact other rfl fun i j z => by cases z
    | .tuple [.int _, .tuple _] => exact other rfl fun i j z => by cases z
theorem f_is_pair_below_eq {x : PyData} (h : Lay x) (n : Int) (D : Dw) : f_is_pair_below [x, .int n] D = .ok (.bool (pairB n x)) D := by
  cases x with
  | tuple xs =>
    match xs with
    | [] => simp [f_is_pair_below, b_is_pair_below, pairB]
    | [_] => simp [f_is_pair_below, b_is_pair_below, pairB]
    | [p, q] =>
      have eq := f_is_number_eq q (h.tup q (by simp)).noErr
      have ep := fun hi D => f_within_eq p (h.tup p (by simp)).noErr 0 hi D
      cases q with
      | int j =>
        cases p with
        | int i =>
          by_cases h1 : 0 ≤ i <;> by_cases h2 : i ≤ j - 1 <;> simp [f_is_pair_below, b_is_pair_below, pairB, eq, isNumD, ep, inR, h1, h2]
        | _ => simp [f_is_pair_below, b_is_pair_below, pairB, eq, isNumD, ep, inR]
      | _ => cases p <;> simp [f_is_pair_below, b_is_pair_below, pairB, eq, isNumD]
    | p :: q :: s :: t =>
      have e : ((((t.length : Int) + 1 + 1 + 1) == 2) = false) := by simp; omega
      simp [f_is_pair_below, b_is_pair_below, pairB, e]
  | _ => simp [f_is_pair_below, b_is_pair_below, isi_tuple h.noErr, isTupD, pairB]
def areB (b a : List Int) (d : PyData) : Bool := match d with
  | .tuple xs => rowB b a 0 xs
  | _ => false
theorem cut_ints (cs : List Int) (i j : Nat) : cutD (intsD cs) (some (i : Int)) (some (j : Int)) = intsD ((cs.drop i).take (j - i)) := by
  rw [cut_nat]
  unfold intsD
  rw [List.map_take, List.map_drop]
theorem segB_nat (b a : List Int) (i j : Nat) : segB b a i j = inB ((a.drop i).take (j + 1 - i)) b := by
  unfold segB
  have : ((j : Int) + 1 - (i : Int)).toNat = j + 1 - i := by omega
  rw [this, Int.toNat_natCast]
section
variable {a b : List Int} (ha : C63 a) (hb : C63 b) (la : a.length ≤ 1000) (lb : b.length ≤ 1000)
include ha hb la lb
theorem rifts_loop (z0 z1 : PyData) (xs : List PyData) (D : Dw) : ∀ (r pre : List PyData) (last : Int) (y5 y6 y7 : Option Fx.T), xs = pre ++ r → r.all (pairB a.length) = true → (pre = [] ∧ last = 0 ∨ ∃ pre' i j, pre = pre' ++ [.tuple [.int i, .int j]] ∧ last = j) →
    ∃ o ρ', Sv.loop (Gv.tup 2 (Gv.cons (Gv.name 5) (Gv.cons (Gv.tup 2 (Gv.cons (Gv.name 6) (Gv.cons (Gv.name 7) Gv.nil))) Gv.nil))) w_is_rifts_1 ((r.zipIdx pre.length).map fun p => .tuple [.int (p.2 : Int), p.1]) [some (.d z0), some (.d z1), some (.d (.tuple xs)), some (.d (.str (tx b))), some (.d (.str (tx a))), y5, y6, y7] D = .ok (o, ρ') D ∧ o = if ordB b a last r = true then .nx else .ret (.bool false)
  | [], pre, last, y5, y6, y7, _, _, _ => ⟨.nx, _, rfl, rfl⟩
  | x :: r, pre, last, y5, y6, y7, hx, hp, hl => by
    rw [List.all_cons, Bool.and_eq_true] at hp
    obtain ⟨i, j, rfl, hi, hij, hj⟩ : ∃ i j : Nat, x = .tuple [.int i, .int j] ∧ True ∧ (i : Int) ≤ j - 1 ∧ j < a.length := by
      have h1 := hp.1
      unfold pairB at h1
      split at h1
      · rename_i i j
        simp only [Bool.and_eq_true, decide_eq_true_eq] at h1
        exact ⟨i.toNat, j.toNat, by rw [Int.toNat_of_nonneg h1.1, Int.toNat_of_nonneg (by omega)], trivial, by omega, by omega⟩
      · cases h1
    obtain ⟨o, ρ', e, ho⟩ := rifts_loop z0 z1 xs D r (pre ++ [.tuple [.int i, .int j]]) j (some (.d (.int pre.length))) (some (.d (.int i))) (some (.d (.int j))) (by rw [hx]; simp) hp.2 (.inr ⟨pre, i, j, rfl, rfl⟩)
    rw [List.length_append] at e
    have e : Sv.loop (Gv.tup 2 (Gv.cons (Gv.name 5) (Gv.cons (Gv.tup 2 (Gv.cons (Gv.name 6) (Gv.cons (Gv.name 7) Gv.nil))) Gv.nil))) w_is_rifts_1 ((r.zipIdx (pre.length + 1)).map fun p => .tuple [.int (p.2 : Int), p.1]) [some (.d z0), some (.d z1), some (.d (.tuple xs)), some (.d (.str (tx b))), some (.d (.str (tx a))), some (.d (.int pre.length)), some (.d (.int i)), some (.d (.int j))] D = .ok (o, ρ') D := e
    have l1 : a.length ≤ sizeLine := by rw [sizeLine_eq]; omega
    have ec : cutS (tx a) (some (i : Int)) (some ((j : Int) + 1)) = tx ((a.drop i).take (j + 1 - i)) := cut_tx a i (j + 1)
    have ei := in_tx ((ha.drop i).take (j + 1 - i)) hb
    have sb := segB_nat b a i j
    -- the first test
    have first : (Ev.tand (Ev.tb (Ev.o2 (gB fun i j => decide (j < i)) (Ev.var 5) (Ev.c (.int 0)))) (Ev.tb (Ev.o2 gLt (Ev.var 6) (Ev.o2 gIx (Ev.o2 gIx (Ev.var 2) (Ev.o2 (gI fun i j => some (.int (i - j))) (Ev.var 5) (Ev.c (.int 1)))) (Ev.c (.int 1)))))) [some (.d z0), some (.d z1), some (.d (.tuple xs)), some (.d (.str (tx b))), some (.d (.str (tx a))), some (.d (.int pre.length)), some (.d (.int i)), some (.d (.int j))] D = .ok (!decide (last ≤ (i : Int))) D := by
      rcases hl with ⟨rfl, rfl⟩ | ⟨pre', i', j', rfl, rfl⟩
      · have : decide ((0 : Int) ≤ (i : Int)) = true := decide_eq_true (by omega)
        simp [this]
      · have h0 : (0 : Int) < ((pre' ++ [PyData.tuple [.int i', .int last]]).length : Int) := by rw [List.length_append, List.length_singleton]; omega
        have hat : atI xs (((pre' ++ [PyData.tuple [.int i', .int last]]).length : Int) - 1) = some (.tuple [.int i', .int last]) := by
          rw [hx, show (((pre' ++ [PyData.tuple [.int i', .int last]]).length : Int) - 1) = ((pre'.length : Nat) : Int) by simp, at_nat, List.append_assoc, List.getElem?_append_right (Nat.le_refl _), Nat.sub_self]
          rfl
        simp only [e_tand, e_tb, e_o2, e_var, e_c, List.getElem?_cons_succ, List.getElem?_cons_zero, view_d, ofO_some, bind_ok, x_gB, h0, decide_true, if_true, x_gI, x_ixT, hat, at_c1, x_lt]
        by_cases hq : last ≤ (i : Int)
        · rw [decide_eq_true hq, decide_eq_false (by omega)]; rfl
        · rw [decide_eq_false hq, decide_eq_true (by omega)]; rfl
    have second : (Ev.tb (Ev.o2 gIn (Ev.sl (Ev.var 4) (Ev.part (Ev.var 6)) (Ev.part (Ev.o2 gAdd (Ev.var 7) (Ev.c (.int 1))))) (Ev.var 3))) [some (.d z0), some (.d z1), some (.d (.tuple xs)), some (.d (.str (tx b))), some (.d (.str (tx a))), some (.d (.int pre.length)), some (.d (.int i)), some (.d (.int j))] D = .ok (segB b a i j) D := by
      rw [sb]
      simp [tx_len, l1, ec, ei]
    have hz : ((((PyData.tuple [.int (i : Int), .int (j : Int)]) :: r).zipIdx pre.length).map fun p => PyData.tuple [.int (p.2 : Int), p.1]) = .tuple [.int pre.length, .tuple [.int i, .int j]] :: ((r.zipIdx (pre.length + 1)).map fun p => .tuple [.int (p.2 : Int), p.1]) := rfl
    rw [hz]
    have ob : ordB b a last (.tuple [.int i, .int j] :: r) = (decide (last ≤ (i : Int)) && (!segB b a i j && ordB b a j r)) := rfl
    rw [ob]
    have g : (Gv.tup 2 (Gv.cons (Gv.name 5) (Gv.cons (Gv.tup 2 (Gv.cons (Gv.name 6) (Gv.cons (Gv.name 7) Gv.nil))) Gv.nil))) (.tuple [.int pre.length, .tuple [.int i, .int j]]) [some (.d z0), some (.d z1), some (.d (.tuple xs)), some (.d (.str (tx b))), some (.d (.str (tx a))), y5, y6, y7] = some [some (.d z0), some (.d z1), some (.d (.tuple xs)), some (.d (.str (tx b))), some (.d (.str (tx a))), some (.d (.int pre.length)), some (.d (.int i)), some (.d (.int j))] := rfl
    have body : w_is_rifts_1 [some (.d z0), some (.d z1), some (.d (.tuple xs)), some (.d (.str (tx b))), some (.d (.str (tx a))), some (.d (.int pre.length)), some (.d (.int i)), some (.d (.int j))] D = .ok (if decide (last ≤ (i : Int)) = true then (if segB b a i j = true then .ret (.bool false) else .nx) else .ret (.bool false), [some (.d z0), some (.d z1), some (.d (.tuple xs)), some (.d (.str (tx b))), some (.d (.str (tx a))), some (.d (.int pre.length)), some (.d (.int i)), some (.d (.int j))]) D := by
      unfold w_is_rifts_1
      by_cases h1 : last ≤ (i : Int)
      · cases h2 : segB b a i j <;> simp only [s_seq, s_ite, first, second, h1, h2, bind_ok, decide_true, Bool.not_true, Bool.false_eq_true, if_false, if_true, s_skip, s_ret, e_c]
      · simp only [s_seq, s_ite, first, h1, bind_ok, decide_false, Bool.not_false, if_true, s_ret, e_c, Bool.false_eq_true, if_false]
    by_cases h1 : last ≤ (i : Int)
    · rw [decide_eq_true h1, if_pos rfl] at body
      cases h2 : segB b a i j with
      | true =>
        rw [h2, if_pos rfl] at body
        refine ⟨.ret (.bool false), [some (.d z0), some (.d z1), some (.d (.tuple xs)), some (.d (.str (tx b))), some (.d (.str (tx a))), some (.d (.int pre.length)), some (.d (.int i)), some (.d (.int j))], ?_, by simp⟩
        unfold Sv.loop
        simp only [g, body, bind_ok]
      | false =>
        rw [h2, if_neg Bool.false_ne_true] at body
        refine ⟨o, ρ', ?_, by rw [ho]; simp [h1]⟩
        unfold Sv.loop
        simp only [g, body, bind_ok, e]
    · rw [decide_eq_false h1, if_neg Bool.false_ne_true] at body
      refine ⟨.ret (.bool false), [some (.d z0), some (.d z1), some (.d (.tuple xs)), some (.d (.str (tx b))), some (.d (.str (tx a))), some (.d (.int pre.length)), some (.d (.int i)), some (.d (.int j))], ?_, by simp [h1]⟩
      unfold Sv.loop
      simp only [g, body, bind_ok]
theorem f_is_rifts_eq {d : PyData} (h : Lay d) (hl : ∀ xs, d = .tuple xs → xs.length < 10000000) (D : Dw) : f_is_rifts [.list (intsD b), .list (intsD a), d] D = .ok (.bool (areB b a d)) D := by
  have ta := f_text_of_eq (d := .list (intsD a)) rfl ha (by omega)
  have tb := f_text_of_eq (d := .list (intsD b)) rfl hb (by omega)
  have l1 : a.length ≤ sizeLine := by rw [sizeLine_eq]; omega
  have pt : ∀ D, f_is_tuple_of__L fL_is_rifts_1 [.str (tx a)] [d] D = .ok (.bool (tupAll (pairB a.length) d)) D := fun D => f_itof_eq _ h.noErr D fun xs e => ⟨hl xs e, fun x m => by
    subst e
    have := f_is_pair_below_eq (h.tup x m) (a.length : Int) D
    simp [fL_is_rifts_1, tx_len, l1, this]⟩
  have g : (Gv.tup 2 (Gv.cons (Gv.name 3) (Gv.cons (Gv.name 4) Gv.nil))) (.tuple [.str (tx b), .str (tx a)]) [some (.d (.list (intsD b))), some (.d (.list (intsD a))), some (.d d), none, none, none, none, none] = some [some (.d (.list (intsD b))), some (.d (.list (intsD a))), some (.d d), some (.d (.str (tx b))), some (.d (.str (tx a))), none, none, none] := rfl
  have asg : Sv.asg (Gv.tup 2 (Gv.cons (Gv.name 3) (Gv.cons (Gv.name 4) Gv.nil))) (Ev.tup (Ev.cons (Ev.callE 1 f_text_of (Ev.cons (Ev.dat 0) Ev.nil)) (Ev.cons (Ev.callE 1 f_text_of (Ev.cons (Ev.dat 1) Ev.nil)) Ev.nil))) [some (.d (.list (intsD b))), some (.d (.list (intsD a))), some (.d d), none, none, none, none, none] D = .ok (.nx, [some (.d (.list (intsD b))), some (.d (.list (intsD a))), some (.d d), some (.d (.str (tx b))), some (.d (.str (tx a))), none, none, none]) D := by
    unfold Sv.asg
    simp [ta, tb, g]
  cases hall : tupAll (pairB a.length) d with
  | false =>
    have hz : areB b a d = false := by
      cases d with
      | tuple xs =>
        show rowB b a 0 xs = false
        have hall : xs.all (pairB a.length) = false := hall
        rw [rowB_eq xs 0 (Int.le_refl _), hall, Bool.false_and]
      | _ => rfl
    simp [f_is_rifts, b_is_rifts, asg, Ev.capD, pt, hall, hz]
  | true =>
    cases d with
    | tuple xs =>
      have hall' : xs.all (pairB a.length) = true := hall
      obtain ⟨o, ρ', e, ho⟩ := rifts_loop ha hb la lb (.list (intsD b)) (.list (intsD a)) xs D xs [] 0 none none none rfl hall' (.inl ⟨rfl, rfl⟩)
      have hz : areB b a (.tuple xs) = ordB b a 0 xs := by
        show rowB b a 0 xs = _
        rw [rowB_eq xs 0 (Int.le_refl _), hall', Bool.true_and]
      have e : Sv.loop (Gv.tup 2 (Gv.cons (Gv.name 5) (Gv.cons (Gv.tup 2 (Gv.cons (Gv.name 6) (Gv.cons (Gv.name 7) Gv.nil))) Gv.nil))) w_is_rifts_1 (xs.zipIdx.map fun p => .tuple [.int (p.2 : Int), p.1]) [some (.d (.list (intsD b))), some (.d (.list (intsD a))), some (.d (.tuple xs)), some (.d (.str (tx b))), some (.d (.str (tx a))), none, none, none] D = .ok (o, ρ') D := e
      cases hq : ordB b a 0 xs <;> rw [hq] at ho <;> simp at ho <;> subst ho <;> simp [f_is_rifts, b_is_rifts, asg, Ev.capD, pt, hall, hz, hq, e]
    | _ => cases hall
end
end K78
set_option Elab.async false
set_option linter.all false
set_option maxRecDepth 100000
set_option maxHeartbeats 4000000
namespace K78
open PySem PySem.Spec PyProof.Rows L2 Kb Fx
variable [Nm]
/-! ### find -/
theorem occ_all (s sub : Str) (hi limit : Nat) : ∀ (l : List Nat) (st : Array Nat × Nat), (∀ k ∈ st.fst.toList, k + sub.length ≤ hi ∧ Builtin.Str.subAt s sub k = true) → ∀ k ∈ (forIn l st (StrLaws.occBody s sub hi limit)).run.fst.toList, k + sub.length ≤ hi ∧ Builtin.Str.subAt s sub k = true
  | [], st, h => h
  | a :: l, st, h => by
    rw [List.forIn_cons]
    unfold StrLaws.occBody
    split
    · rename_i hc
      refine occ_all s sub hi limit l _ fun k m => ?_
      rw [Array.toList_push] at m
      rcases List.mem_append.mp m with m | m
      · exact h k m
      · rw [List.mem_singleton.mp m]; exact ⟨hc.1.2, hc.2⟩
    · exact occ_all s sub hi limit l _ h
theorem find_tx {a b : List Int} (ha : C63 a) (hb : C63 b) : (inB a b = false ∧ Txt.find (tx b) (tx a) = -1) ∨ ∃ i : Nat, Txt.find (tx b) (tx a) = (i : Int) ∧ i + a.length ≤ b.length ∧ (b.drop i).take a.length = a := by
  have e := occ_tx ha hb
  unfold Txt.find
  cases ho : Builtin.Str.occurrences (tx b) (tx a) 0 (tx b).length 1 with
  | nil => rw [ho] at e; exact .inl ⟨e.symm, rfl⟩
  | cons i r =>
    refine .inr ⟨i, rfl, ?_⟩
    have hm : i ∈ Builtin.Str.occurrences (tx b) (tx a) 0 (tx b).length 1 := by rw [ho]; exact List.mem_cons_self
    rw [StrLaws.occ_eq] at hm
    obtain ⟨h1, h2⟩ := occ_all _ _ _ _ _ (#[], 0) (fun k m => by cases m) i hm
    rw [tx_len, tx_len] at h1
    rw [StrLaws.subAt_eq, beq_iff_eq, tx_list, tx_list, tx_len, ← List.map_drop, ← List.map_take] at h2
    exact ⟨h1, map_inj ((hb.drop i).take _) ha h2⟩
/-! ### patch -/
theorem seg_at {b a : List Int} {s v : Nat} (h : Seg b a s v) : inB ((a.drop s).take (v - s)) b = true ∨ v = s + 1 := by
  rcases h.st with h1 | h1
  · exact .inr h1
  · left
    unfold stB at h1
    exact (Bool.and_eq_true_iff.mp h1).2
abbrev enT (db da : PyData) (b a : List Int) (sts : List Stp) (y5 y6 y7 : Option Fx.T) : Fx.Env := [some (.d db), some (.d da), some (.d (.str (tx b))), some (.d (.str (tx a))), some (.l (sts.map stD)), y5, y6, y7]
theorem ix_of {da : PyData} {a : List Int} (h : seqOf da = some (intsD a)) (i : Int) : gIx da (.int i) = atI (intsD a) i := by
  cases da with
  | list xs => cases h; rfl
  | tuple xs => cases h; rfl
  | _ => cases h
theorem take_drop_app {a : List Int} {s v : Nat} (h : s ≤ v) : (a.drop s).take (v - s) ++ a.drop v = a.drop s := by
  have := List.take_append_drop (v - s) (a.drop s)
  rw [List.drop_drop, show s + (v - s) = v by omega] at this
  exact this
theorem patch_turn {db da : PyData} {b a : List Int} (hda : seqOf da = some (intsD a)) (ha : C63 a) (hb : C63 b) (la : a.length ≤ 100000) {s v : Nat} (sg : Seg b a s v) (acc : List Stp) (hl : acc.length ≤ 100000) (y7 : Option Fx.T) (D : Dw) :
    ∃ st z7, w_patch_1 (enT db da b a acc (some (.d (.int s))) (some (.d (.int v))) y7) D = .ok (.nx, enT db da b a (acc ++ [st]) (some (.d (.int s))) (some (.d (.int v))) z7) D ∧ StOk b.length st ∧ segOf b st = (a.drop s).take (v - s) := by
  have lt := sg.lt
  have le := sg.le
  have l1 : (tx a).length ≤ sizeLine := by rw [tx_len, sizeLine_eq]; omega
  have l2 : acc.length < 10000000 := by omega
  have ec : cutS (tx a) (some (s : Int)) (some (v : Int)) = tx ((a.drop s).take (v - s)) := cut_tx a s v
  have lseg : ((a.drop s).take (v - s)).length = v - s := by rw [List.length_take, List.length_drop]; omega
  rcases find_tx (a := (a.drop s).take (v - s)) ((ha.drop s).take _) hb with ⟨f1, f2⟩ | ⟨i, f1, f2, f3⟩
  · have hv : v = s + 1 := (seg_at sg).elim (fun z => by rw [f1] at z; cases z) id
    have hs : s < a.length := by omega
    have gx : gIx da (.int s) = some (.int a[s]) := by
      rw [ix_of hda, at_nat]
      unfold intsD
      rw [List.getElem?_map, List.getElem?_eq_getElem hs]; rfl
    have hc := ha a[s] (List.getElem_mem hs)
    have hcz : ((a[s].toNat : Nat) : Int) = a[s] := Int.toNat_of_nonneg hc.1
    refine ⟨.cell a[s].toNat, some (.d (.int (-1))), ?_, by show a[s].toNat ≤ 63; omega, ?_⟩
    · simp [w_patch_1, l1, ec, gFindS, f2, gx, l2, stD, hcz]
    · show [((a[s].toNat : Nat) : Int)] = _
      rw [hcz, hv, Nat.add_sub_cancel_left, List.drop_eq_getElem_cons hs]; rfl
  · rw [lseg] at f2 f3
    refine ⟨.copy i (v - s), some (.d (.int i)), ?_, ⟨f2, by omega⟩, f3⟩
    have nn : ¬ ((i : Int) < 0) := by omega
    have hvs : ((v : Int) - (s : Int)) = ((v - s : Nat) : Int) := by omega
    simp [w_patch_1, l1, ec, gFindS, f1, nn, l2, stD, hvs]
theorem patch_loop {db da : PyData} {b a : List Int} (hda : seqOf da = some (intsD a)) (ha : C63 a) (hb : C63 b) (la : a.length ≤ 100000) (D : Dw) : ∀ (ps : List (Nat × Nat)) (x : Nat) (acc : List Stp) (y5 y6 y7 : Option Fx.T), Ch b a x ps a.length → acc.length + ps.length ≤ 100000 →
    ∃ sts z5 z6 z7, Sv.loop (Gv.tup 2 (Gv.cons (Gv.name 5) (Gv.cons (Gv.name 6) Gv.nil))) w_patch_1 (ps.map prN) (enT db da b a acc y5 y6 y7) D = .ok (.nx, enT db da b a (acc ++ sts) z5 z6 z7) D ∧ sts.length = ps.length ∧ (∀ s ∈ sts, StOk b.length s) ∧ allSeg b sts = a.drop x
  | [], x, acc, y5, y6, y7, h, _ => by
    have h : x = a.length := h
    refine ⟨[], y5, y6, y7, by simp [Sv.loop], rfl, fun s m => absurd m List.not_mem_nil, ?_⟩
    rw [h, List.drop_length]; rfl
  | (s, v) :: r, x, acc, y5, y6, y7, ⟨h1, h2, h3⟩, hl => by
    rw [List.length_cons] at hl
    have h1 : s = x := h1
    subst h1
    obtain ⟨st, w7, e1, ok, sgm⟩ := patch_turn (db := db) hda ha hb la h2 acc (by omega) y7 D
    obtain ⟨sts, z5, z6, z7, e2, l2, o2, a2⟩ := patch_loop (db := db) hda ha hb la D r v (acc ++ [st]) (some (.d (.int s))) (some (.d (.int v))) w7 h3 (by rw [List.length_append, List.length_singleton]; omega)
    refine ⟨st :: sts, z5, z6, z7, ?_, by rw [List.length_cons, l2, List.length_cons], fun u m => (List.mem_cons.mp m).elim (fun z => z ▸ ok) (o2 u), ?_⟩
    · have eg : Gv.tup 2 (Gv.cons (Gv.name 5) (Gv.cons (Gv.name 6) Gv.nil)) (prN (s, v)) (enT db da b a acc y5 y6 y7) = some (enT db da b a acc (some (.d (.int s))) (some (.d (.int v))) y7) := rfl
      rw [List.map_cons]
      unfold Sv.loop
      rw [eg]
      dsimp only
      rw [e1, bind_ok]
      dsimp only
      rw [e2, List.append_assoc]
      rfl
    · show segOf b st ++ allSeg b sts = _
      rw [sgm, a2, take_drop_app (Nat.le_of_lt h2.lt)]
/-- patch: as many steps as there are parts -/
theorem f_patch_eq {db da : PyData} {b a : List Int} (hda : seqOf da = some (intsD a)) (hdb : seqOf db = some (intsD b)) (ha : C63 a) (hb : C63 b) (la : a.length ≤ 1000) (lb : b.length ≤ 1000) (D : Dw) :
    ∃ (ps : List (Nat × Nat)) (sts : List Stp), f_parts_of [.str (tx b), .str (tx a)] D = .ok (.list (ps.map prN)) D ∧ Ch b a 0 ps a.length ∧ f_patch [db, da] D = .ok (.tuple (sts.map stD)) D ∧ sts.length = ps.length ∧ (∀ s ∈ sts, StOk b.length s) ∧ allSeg b sts = a := by
  obtain ⟨ps, e1, hc⟩ := parts_spec ha hb (by omega) (by omega) D
  have lc := hc.len
  obtain ⟨sts, z5, z6, z7, e2, l2, o2, a2⟩ := patch_loop (db := db) hda ha hb (by omega) D ps 0 [] none none none hc (by rw [List.length_nil]; omega)
  refine ⟨ps, sts, e1, hc, ?_, l2, o2, a2⟩
  have ta := f_text_of_eq hda ha (by omega) D
  have tb := f_text_of_eq hdb hb (by omega) D
  have e2 : Sv.loop (Gv.tup 2 (Gv.cons (Gv.name 5) (Gv.cons (Gv.name 6) Gv.nil))) w_patch_1 (ps.map prN) [some (.d db), some (.d da), some (.d (.str (tx b))), some (.d (.str (tx a))), some (.l []), none, none, none] D = .ok (.nx, enT db da b a sts z5 z6 z7) D := by
    have := e2
    rw [List.nil_append] at this
    exact this
  simp [f_patch, b_patch, ta, tb, e1, e2, Sv.ownT]
end K78
set_option Elab.async false
set_option linter.all false
set_option maxRecDepth 100000
set_option maxHeartbeats 2000000
namespace K78
open PySem PySem.Spec PyProof.Rows L2 Kb Fx
variable [Nm]
/-! ### the law's own look at rows of rifts -/
theorem eqv_intsL : ∀ x y : List Int, PyData.eqvAll (intsD x) (intsD y) = decide (x = y)
  | [], [] => rfl
  | [], _ :: _ => rfl
  | _ :: _, [] => rfl
  | i :: x, j :: y => by
    show ((i == j) && PyData.eqvAll (intsD x) (intsD y)) = _
    rw [eqv_intsL x y]
    by_cases h : i = j
    · subst h
      by_cases h2 : x = y <;> simp [h2]
    · simp [h]
theorem eqL (x y : List Int) : gEq (.list (intsD x)) (.list (intsD y)) = some (.bool (decide (x = y))) := by
  unfold gEq
  have h1 : SeqAt.shaped (.list (intsD x)) = true := shaped_ints x
  have h2 : SeqAt.shaped (.list (intsD y)) = true := shaped_ints y
  rw [h1, h2]
  simp only [Bool.and_self, if_true]
  exact congrArg (fun z => some (PyData.bool z)) (eqv_intsL x y)
theorem neL (x y : List Int) : gNe (.list (intsD x)) (.list (intsD y)) = some (.bool (!decide (x = y))) := by
  unfold gNe
  have h1 : SeqAt.shaped (.list (intsD x)) = true := shaped_ints x
  have h2 : SeqAt.shaped (.list (intsD y)) = true := shaped_ints y
  rw [h1, h2]
  simp only [Bool.and_self, if_true]
  exact congrArg (fun z => some (PyData.bool (!z))) (eqv_intsL x y)
theorem ne_nil {xs : List PyData} (h : SeqAt.shaped (.list xs) = true) : gNe (.list xs) (.list []) = some (.bool (!xs.isEmpty)) := by
  unfold gNe
  have h2 : SeqAt.shaped (.list []) = true := rfl
  rw [h, h2]
  cases xs <;> rfl
theorem shaped_of {xs : List PyData} (h1 : ∀ x ∈ xs, Lay x) (h2 : ∀ x ∈ xs, x.depth ≤ 63) : SeqAt.shaped (.list xs) = true := by
  have a : PyData.canLayAll0 xs = true ∧ PyData.depthAll xs ≤ 63 := by
    induction xs with
    | nil => exact ⟨rfl, Nat.zero_le _⟩
    | cons x r ih =>
      obtain ⟨i1, i2⟩ := ih (fun y m => h1 y (List.mem_cons_of_mem _ m)) (fun y m => h2 y (List.mem_cons_of_mem _ m))
      have l := h1 x List.mem_cons_self
      have d := h2 x List.mem_cons_self
      unfold Lay at l
      refine ⟨?_, ?_⟩
      · show (x.canLay0 && PyData.canLayAll0 r) = true
        rw [l, i1]; rfl
      · show max x.depth (PyData.depthAll r) ≤ 63
        omega
  unfold SeqAt.shaped
  rw [Bool.and_eq_true, decide_eq_true_iff]
  refine ⟨by simp [PyData.canLay0, a.1], ?_⟩
  show PyData.depthAll xs + 1 ≤ 64
  omega
theorem depth_mem {xs : List PyData} : ∀ x ∈ xs, x.depth ≤ PyData.depthAll xs := by
  induction xs with
  | nil => exact fun x m => absurd m List.not_mem_nil
  | cons y r ih =>
    intro x m
    show _ ≤ max y.depth (PyData.depthAll r)
    rcases List.mem_cons.mp m with rfl | m
    · exact Nat.le_max_left _ _
    · exact Nat.le_trans (ih x m) (Nat.le_max_right _ _)
abbrev enV (b a : List Int) (d : PyData) (last : Int) (x : PyData) (y : Option Fx.T) : Fx.Env := [some (.d (.list (intsD b))), some (.d (.list (intsD a))), some (.d d), some (.d (.int last)), some (.d x), y, none, none]
theorem any_eq (b seg : List Int) (hs : seg ≠ []) : ((List.range b.length).filter fun i => decide ((b.drop i).take seg.length = seg)).isEmpty = !inB seg b := by
  rw [Bool.eq_iff_iff, List.isEmpty_iff, List.filter_eq_nil_iff, Bool.not_eq_true']
  constructor
  · intro h
    cases q : inB seg b with
    | false => rfl
    | true =>
      unfold inB at q
      obtain ⟨i, h1, h2, h3⟩ := of_decide_eq_true q
      have hp := List.length_pos_iff.mpr hs
      exact absurd (decide_eq_true h3) (h i (List.mem_range.mpr (by omega)))
  · intro h i m
    rw [decide_eq_true_iff]
    intro h3
    have : inB seg b = true := decide_eq_true ⟨i, by have := List.mem_range.mp m; omega, by
      have := congrArg List.length h3
      rw [List.length_take, List.length_drop] at this
      have := List.mem_range.mp m
      have hp := List.length_pos_iff.mpr hs
      omega, h3⟩
    rw [h] at this
    cases this
end K78
set_option Elab.async false
set_option linter.all false
set_option maxRecDepth 100000
set_option maxHeartbeats 2000000
namespace K78
open PySem PySem.Spec PyProof.Rows L2 Kb Fx
variable [Nm]
/-! ### what is shown -/
theorem strOk_app {a b : Str} (h1 : PyData.strOk a = true) (h2 : PyData.strOk b = true) : PyData.strOk (a ++ b) = true := by
  show (a.cps ++ b.cps).all (fun x => decide (x < 0x110000)) = true
  rw [Array.all_append]
  exact Bool.and_eq_true_iff.mpr ⟨h1, h2⟩
theorem strOk_of (s : String) : PyData.strOk (Str.ofString s) = true := by
  rw [Str.ofString_eq_toList]
  show ((s.toList.map Char.toNat).toArray).all (fun x => decide (x < 0x110000)) = true
  rw [Array.all_eq_true']
  intro c m
  have m : c ∈ s.toList.map Char.toNat := by simpa using m
  obtain ⟨k, _, rfl⟩ := List.mem_map.mp m
  rw [decide_eq_true_iff]
  have := k.valid
  have h := k.val.toNat_lt
  rcases this with h | ⟨_, h⟩
  · show k.val.toNat < 0x110000
    have : k.val.toNat < 0xd800 := h
    omega
  · exact h
theorem strOk_join : ∀ ts : List Str, (∀ t ∈ ts, PyData.strOk t = true) → PyData.strOk (Str.join ", " ts) = true
  | [], _ => by decide +kernel
  | [x], h => h x List.mem_cons_self
  | x :: y :: r, h => by
    show PyData.strOk ((x ++ (", " : Str)) ++ Str.join ", " (y :: r)) = true
    exact strOk_app (strOk_app (h x List.mem_cons_self) (strOk_of _)) (strOk_join (y :: r) fun t m => h t (List.mem_cons_of_mem _ m))
theorem int_len {i : Int} (h0 : 0 ≤ i) (h1 : i ≤ 32767) : (PyData.int i).shown.length ≤ 5 := by
  obtain ⟨k, rfl⟩ : ∃ k : Nat, i = k := ⟨i.toNat, by omega⟩
  have e := TL.tl_num k
  have h := TL.numL_len (n := k) (k := 5) (by decide) (by omega)
  rw [← e] at h
  exact h
theorem shown_ints : ∀ {cs : List Int}, C63 cs → ((PyData.shownAll (intsD cs)).map (·.length)).sum ≤ 5 * cs.length ∧ (PyData.shownAll (intsD cs)).length = cs.length ∧ (∀ t ∈ PyData.shownAll (intsD cs), PyData.strOk t = true) ∧ PyData.showableAll (intsD cs) = true
  | [], _ => ⟨Nat.le_refl _, rfl, fun t m => absurd m List.not_mem_nil, rfl⟩
  | c :: r, h => by
    obtain ⟨h1, h2, h3, h4⟩ := shown_ints (cs := r) fun x m => h x (List.mem_cons_of_mem _ m)
    have hc := h c List.mem_cons_self
    have hl := int_len hc.1 (by omega)
    refine ⟨?_, ?_, fun t m => ?_, ?_⟩
    · show (PyData.int c).shown.length + ((PyData.shownAll (intsD r)).map (·.length)).sum ≤ 5 * (r.length + 1)
      omega
    · show (PyData.shownAll (intsD r)).length + 1 = r.length + 1
      rw [h2]
    · rcases List.mem_cons.mp m with rfl | m
      · exact strOk_of _
      · exact h3 t m
    · show (decide (c.natAbs.log2 < 1920) && PyData.showableAll (intsD r)) = true
      rw [h4, Bool.and_true, decide_eq_true_iff]
      obtain ⟨k, rfl⟩ : ∃ k : Nat, c = k := ⟨c.toNat, by omega⟩
      rw [Int.natAbs_natCast]
      by_cases hk : k = 0
      · rw [hk]; decide
      · refine (Nat.log2_lt hk).mpr (Nat.lt_of_lt_of_le (show k < 2 ^ 15 by omega) (Nat.pow_le_pow_right (by decide) (by decide)))
theorem plains_ints (cs : List Int) : plains (intsD cs) = true := by
  induction cs with
  | nil => rfl
  | cons c r ih =>
    show (plain (.int c) && plains (intsD r)) = true
    rw [ih]; rfl
theorem depth_ints (cs : List Int) : PyData.depthAll (intsD cs) = 0 := by
  induction cs with
  | nil => rfl
  | cons c r ih =>
    show max 0 (PyData.depthAll (intsD r)) = 0
    rw [ih]; rfl
theorem repr_cells {cs : List Int} (h : C63 cs) (hl : cs.length ≤ 100000) : ∃ s, gRepr (.tuple (intsD cs)) = some (.str s) ∧ PyData.strOk s = true := by
  obtain ⟨h1, h2, h3, h4⟩ := shown_ints h
  refine ⟨(PyData.tuple (intsD cs)).shown, ?_, ?_⟩
  · unfold gRepr
    rw [if_pos]
    refine ⟨plains_ints cs, h4, ?_, ?_⟩
    · show PyData.depthAll (intsD cs) + 1 ≤ 64
      rw [depth_ints]; decide
    · have := tupleText_len_le (PyData.shownAll (intsD cs))
      show (tupleText (PyData.shownAll (intsD cs))).length ≤ sizeLine
      rw [sizeLine_eq]
      omega
  · show PyData.strOk (tupleText (PyData.shownAll (intsD cs))) = true
    unfold tupleText
    exact strOk_app (strOk_app (strOk_of _) (strOk_join _ h3)) (strOk_of _)
theorem repr_bool (k : Bool) : ∃ s, gRepr (.bool k) = some (.str s) ∧ PyData.strOk s = true := by
  refine ⟨(PyData.bool k).shown, ?_, ?_⟩
  · unfold gRepr
    rw [if_pos]
    refine ⟨rfl, rfl, Nat.zero_le _, ?_⟩
    rw [sizeLine_eq]
    cases k
    · have : (PyData.bool false).shown.length = 5 := by decide +kernel
      omega
    · have : (PyData.bool true).shown.length = 4 := by decide +kernel
      omega
  · cases k <;> exact strOk_of _
theorem neS_self {x : Str} (h : PyData.strOk x = true) : gNe (.str x) (.str x) = some (.bool false) := by
  unfold gNe
  have h1 : SeqAt.shaped (.str x) = true := by simp [SeqAt.shaped, PyData.canLay0, PyData.depth, h]
  rw [h1]
  have : PyData.eqv (.str x) (.str x) = true := by show (x == x) = true; simp
  rw [this]
  rfl
/-! ### draws -/
structure Tn (D : Dw) (n : Int) : Prop where
  lo : 0 ≤ D.turn
  hi : D.turn ≤ n
theorem Tn.mono {D : Dw} {n m : Int} (h : Tn D n) (k : n ≤ m) : Tn D m := ⟨h.lo, Int.le_trans h.hi k⟩
theorem take_nat {many : Nat} {D : Dw} {n : Int} (h : Tn D n) (h1 : 0 < many) (h2 : many ≤ 100000) (h5 : n ≤ 900000000) : ∃ (v : Nat) (D' : Dw), f_l_take [.int many] D = .ok (.int v) D' ∧ v < many ∧ Tn D' (n + 1) := by
  obtain ⟨v, D', e, a, b, c⟩ := take_spec (many := (many : Int)) (by omega) (by omega) h.lo h.hi (by omega)
  exact ⟨v, D', e, by omega, b, c⟩
theorem pick_spec {xs : List PyData} {D : Dw} {n : Int} (h : Tn D n) (hx : xs ≠ []) (hl : xs.length ≤ 1000) (h5 : n ≤ 900000000) : ∃ (x : PyData) (D' : Dw), f_l_pick [.list xs] D = .ok x D' ∧ x ∈ xs ∧ Tn D' (n + 1) := by
  obtain ⟨v, D', e, a, t⟩ := take_nat (many := xs.length) h (List.length_pos_iff.mpr hx) (by omega) h5
  have g : xs[v]? = some xs[v] := List.getElem?_eq_getElem a
  refine ⟨xs[v], D', ?_, List.getElem_mem a, t⟩
  have ha : atI xs (v : Int) = some xs[v] := by rw [at_nat, g]
  simp [f_l_pick, b_l_pick, e, ha]
theorem nil_ne (b : List Int) : gNe (.list (intsD b)) (.list []) = some (.bool (!decide (b = []))) := neL b []
abbrev enS (b : List Int) (sts : List Stp) (y3 y4 y5 : Option Fx.T) : Fx.Env := [some .w, some (.d (.list (intsD b))), some (.l (sts.map stD)), y3, y4, y5]
end K78
set_option Elab.async false
set_option linter.all false
set_option maxRecDepth 100000
set_option maxHeartbeats 4000000
namespace K78
open PySem PySem.Spec PyProof.Rows L2 Kb Fx
variable [Nm]
/-! ### _law_within -/
abbrev enY (b seg : List Int) : Fx.Env := [some (.d (.list (intsD b))), some (.d (.list (intsD seg))), none]
theorem any_at (b seg : List Int) (hs : seg ≠ []) : ((List.range ((b.length : Int) - seg.length + 1).toNat).filter fun i => decide ((b.drop i).take seg.length = seg)).isEmpty = !inB seg b := by
  have hp := List.length_pos_iff.mpr hs
  rw [Bool.eq_iff_iff, List.isEmpty_iff, List.filter_eq_nil_iff, Bool.not_eq_true']
  constructor
  · intro h
    cases q : inB seg b with
    | false => rfl
    | true =>
      unfold inB at q
      obtain ⟨i, h1, h2, h3⟩ := of_decide_eq_true q
      exact absurd (decide_eq_true h3) (h i (List.mem_range.mpr (by omega)))
  · intro h i m
    rw [decide_eq_true_iff]
    intro h3
    have := List.mem_range.mp m
    have : inB seg b = true := decide_eq_true ⟨i, by omega, by omega, h3⟩
    rw [h] at this
    cases this
theorem f_l_within_eq {b seg : List Int} (hs : seg ≠ []) (lb : b.length ≤ 1000) (ls : seg.length ≤ 1000) (D : Dw) : f_l_within [.list (intsD b), .list (intsD seg)] D = .ok (.bool (inB seg b)) D := by
  have hf := lc_filt (ρ := enY b seg) (g := Gv.name 2) (t := t_l_within_1) (a := Ev.dat 2) (fun p => match p with | .int i => decide ((b.drop i.toNat).take seg.length = seg) | _ => false) id D ((List.range ((b.length : Int) - seg.length + 1).toNat).map fun (i : Nat) => .int (i : Int)) (fun p m => by
    obtain ⟨i, mi, rfl⟩ := List.mem_map.mp m
    refine ⟨_, rfl, ?_, rfl⟩
    have ec := cut_ints b i (i + seg.length)
    rw [Nat.add_sub_cancel_left, show ((i + seg.length : Nat) : Int) = (i : Int) + seg.length by omega] at ec
    simp only [t_l_within_1, e_tb, e_o2, e_sl, e_part, e_u1, e_var, List.set_cons_succ, List.set_cons_zero, List.getElem?_cons_succ, List.getElem?_cons_zero, view_d, ofO_some, bind_ok, x_lenL, intsD_len, x_add, x_slL, ec, eqL, Int.toNat_natCast])
  have e0 : (((List.range ((b.length : Int) - seg.length + 1).toNat).map fun (i : Nat) => PyData.int (i : Int)).filter fun p => match p with | .int i => decide ((b.drop i.toNat).take seg.length = seg) | _ => false) = ((List.range ((b.length : Int) - seg.length + 1).toNat).filter fun i => decide ((b.drop i).take seg.length = seg)).map fun (i : Nat) => PyData.int (i : Int) := by
    rw [List.filter_map]
    rfl
  rw [e0, List.map_id] at hf
  have hs2 : SeqAt.shaped (.list (((List.range ((b.length : Int) - seg.length + 1).toNat).filter fun i => decide ((b.drop i).take seg.length = seg)).map fun (i : Nat) => PyData.int (i : Int))) = true := shaped_of (fun p m => by obtain ⟨i, _, rfl⟩ := List.mem_map.mp m; rfl) (fun p m => by obtain ⟨i, _, rfl⟩ := List.mem_map.mp m; exact Nat.zero_le _)
  have hi : (((List.range ((b.length : Int) - seg.length + 1).toNat).filter fun i => decide ((b.drop i).take seg.length = seg)).map fun (i : Nat) => PyData.int (i : Int)).isEmpty = !inB seg b := by
    rw [List.isEmpty_map, any_at b seg hs]
  have hr : Iv.range1 (Ev.o2 gAdd (Ev.o2 (gI fun i j => some (.int (i - j))) (Ev.u1 lenD (Ev.var 0)) (Ev.u1 lenD (Ev.var 1))) (Ev.c (.int 1))) (enY b seg) D = .ok ((List.range ((b.length : Int) - seg.length + 1).toNat).map fun (i : Nat) => .int (i : Int)) D := by
    rw [i_range1]
    simp only [e_o2, e_u1, e_var, e_c, List.getElem?_cons_succ, List.getElem?_cons_zero, view_d, ofO_some, bind_ok, x_lenL, x_gI, x_add, intsD_len]
    rw [if_pos (by omega)]
  have e1 : Ev.lc [2] (Iv.range1 (Ev.o2 gAdd (Ev.o2 (gI fun i j => some (.int (i - j))) (Ev.u1 lenD (Ev.var 0)) (Ev.u1 lenD (Ev.var 1))) (Ev.c (.int 1)))) (Gv.name 2) t_l_within_1 (Ev.dat 2) (enY b seg) D = .ok (.list (((List.range ((b.length : Int) - seg.length + 1).toNat).filter fun i => decide ((b.drop i).take seg.length = seg)).map fun (i : Nat) => PyData.int (i : Int))) D := by
    have hw : wipeE (enY b seg) [2] = enY b seg := rfl
    have hn : Ev.noOwn (enY b seg) [2] = true := rfl
    have ln : ((List.range ((b.length : Int) - seg.length + 1).toNat).map fun (i : Nat) => PyData.int (i : Int)).length < 10000000 := by rw [List.length_map, List.length_range]; omega
    rw [e_lc, hw, hn, hr]
    simp only [bind_ok, ln, and_self, if_true, hf]
  have e2 : Ev.lst Ev.nil (enY b seg) D = .ok (.list []) D := rfl
  have e3 : b_l_within (enY b seg) D = .ok (.ret (.bool (inB seg b)), enY b seg) D := by
    unfold b_l_within
    rw [s_ret, e_o2, e1]
    simp only [e2, bind_ok, ne_nil hs2, ofO_some, hi, Bool.not_not]
  have e3 : b_l_within [some (.d (.list (intsD b))), some (.d (.list (intsD seg))), none] D = .ok (.ret (.bool (inB seg b)), enY b seg) D := e3
  simp [f_l_within, e3]
/-! ### drawn runs -/
theorem ints_of : ∀ {ys : List PyData}, (∀ y ∈ ys, ∃ c : Nat, y = .int c ∧ c ≤ 63) → ∃ cs : List Int, ys = intsD cs ∧ C63 cs ∧ cs.length = ys.length
  | [], _ => ⟨[], rfl, fun c m => absurd m List.not_mem_nil, rfl⟩
  | y :: r, h => by
    obtain ⟨c, rfl, hc⟩ := h y List.mem_cons_self
    obtain ⟨cs, rfl, h2, h3⟩ := ints_of fun z m => h z (List.mem_cons_of_mem _ m)
    refine ⟨(c : Int) :: cs, rfl, fun x m => ?_, by rw [List.length_cons, h3, List.length_cons]⟩
    rcases List.mem_cons.mp m with rfl | m
    · omega
    · exact h2 x m
theorem f_l_run_eq {many : Nat} (h0 : 0 < many) (hm : many ≤ 100) (D : Dw) (n : Int) (h : Tn D n) (hn : n ≤ 700000000) : ∃ (cs : List Int) (D' : Dw), f_l_run [.int many] D = .ok (.list (intsD cs)) D' ∧ C63 cs ∧ cs.length < many ∧ Tn D' (n + 200) := by
  obtain ⟨x, D1, e1, mx, t1⟩ := pick_spec (xs := [.int 2, .int 3, .int 5, .int 64]) h (by simp) (by simp) (by omega)
  obtain ⟨mm, rfl, hmm0, hmm⟩ : ∃ mm : Nat, x = .int mm ∧ 0 < mm ∧ mm ≤ 64 := by
    simp only [List.mem_cons, List.not_mem_nil, or_false] at mx
    rcases mx with rfl | rfl | rfl | rfl
    · exact ⟨2, rfl, by decide, by decide⟩
    · exact ⟨3, rfl, by decide, by decide⟩
    · exact ⟨5, rfl, by decide, by decide⟩
    · exact ⟨64, rfl, by decide, by decide⟩
  obtain ⟨v, D2, e2, hv, t2⟩ := take_nat (many := many) t1 h0 (by omega) (by omega)
  have er : Iv.range1 (Ev.callD 0 1 f_l_take (Ev.cons (Ev.dat 1) Ev.nil)) [some .w, some (.d (.int many)), some (.d (.int mm)), none] D1 = .ok ((List.range v).map fun (i : Nat) => .int (i : Int)) D2 := by
    have a1 : (v : Int) < 10000000 := by omega
    have a2 : (-10000000 : Int) < v := by omega
    rw [i_range1]
    simp only [e_callD, List.getElem?_cons_succ, List.getElem?_cons_zero, e_cons, e_dat, e_nil, bind_ok, List.length_cons, List.length_nil, if_true, e2]
    rw [if_pos ⟨a1, a2⟩, Int.toNat_natCast]
  obtain ⟨ys, D3, e3, l3, p3, t3⟩ := lc_draw (ρ := [some .w, some (.d (.int many)), some (.d (.int mm)), none]) (g := Gv.name 3) (t := Ev.yes) (a := e_l_run_1) (fun k D => Tn D (n + 2 + k)) (fun y => ∃ c : Nat, y = .int c ∧ c ≤ 63) ((List.range v).map fun (i : Nat) => .int (i : Int)) 0 D2 (t2.mono (by omega)) (fun k D hk h d m => by
    rw [List.length_map, List.length_range] at hk
    refine ⟨_, rfl, rfl, ?_⟩
    obtain ⟨c, D4, e4, hc, t4⟩ := take_nat (many := mm) h hmm0 (by omega) (by omega)
    refine ⟨.int c, D4, ?_, ⟨c, rfl, by omega⟩, t4.mono (by omega)⟩
    simp [e_l_run_1, e4])
  rw [List.length_map, List.length_range] at l3 t3
  obtain ⟨cs, rfl, hc, lc⟩ := ints_of p3
  refine ⟨cs, D3, ?_, hc, by omega, t3.mono (by omega)⟩
  have ln : ((List.range v).map fun (i : Nat) => PyData.int (i : Int)).length < 10000000 := by rw [List.length_map, List.length_range]; omega
  have e5 : Ev.lc [3] (Iv.range1 (Ev.callD 0 1 f_l_take (Ev.cons (Ev.dat 1) Ev.nil))) (Gv.name 3) Ev.yes e_l_run_1 [some .w, some (.d (.int many)), some (.d (.int mm)), none] D1 = .ok (.list (intsD cs)) D3 := by
    have hw : wipeE [some .w, some (.d (.int many)), some (.d (.int mm)), none] [3] = [some .w, some (.d (.int many)), some (.d (.int mm)), none] := rfl
    have hn : Ev.noOwn [some .w, some (.d (.int many)), some (.d (.int mm)), none] [3] = true := rfl
    rw [e_lc, er, hw, hn]
    simp only [bind_ok, ln, and_self, if_true, e3]
  simp [-e_lc, f_l_run, b_l_run, e1, e5]
end K78
set_option Elab.async false
set_option linter.all false
set_option maxRecDepth 100000
set_option maxHeartbeats 4000000
namespace K78
open PySem PySem.Spec PyProof.Rows L2 Kb Fx
variable [Nm]
/-! ### _law_of_parts -/
abbrev enO (b acc : List Int) (y3 y4 : Option Fx.T) : Fx.Env := [some .w, some (.d (.list (intsD b))), some (.d (.list (intsD acc))), y3, y4]
theorem parts_turn {b : List Int} (hb : C63 b) (lb : b.length ≤ 1000) {acc : List Int} (ha : C63 acc) (la : acc.length ≤ 10000) (y3 y4 : Option Fx.T) (D : Dw) (n : Int) (h : Tn D n) (hn : n ≤ 700000000) :
    ∃ acc' z4 D', w_l_of_parts_1 (enO b acc y3 y4) D = .ok (.nx, enO b acc' y3 z4) D' ∧ C63 acc' ∧ acc'.length ≤ acc.length + 13 ∧ Tn D' (n + 4) := by
  obtain ⟨p, D1, e1, hp, t1⟩ := take_nat (many := b.length + 1) h (by omega) (by omega) (by omega)
  obtain ⟨q, D2, e2, hq, t2⟩ := take_nat (many := 12) t1 (by omega) (by omega) (by omega)
  obtain ⟨c, D3, e3, hc, t3⟩ := take_nat (many := 64) t2 (by omega) (by omega) (by omega)
  obtain ⟨k, D4, e4, hk, t4⟩ := take_nat (many := 2) t3 (by omega) (by omega) (by omega)
  have e1 : f_l_take [.int ((b.length : Int) + 1)] D = .ok (.int p) D1 := e1
  have e2 : f_l_take [.int 12] D1 = .ok (.int q) D2 := e2
  have e3 : f_l_take [.int 64] D2 = .ok (.int c) D3 := e3
  have e4 : f_l_take [.int 2] D3 = .ok (.int k) D4 := e4
  have ec : Fx.cutD (intsD b) (some (p : Int)) (some ((p : Int) + q)) = intsD ((b.drop p).take q) := by
    have := cut_ints b p (p + q)
    rw [Nat.add_sub_cancel_left] at this
    rw [show ((p : Int) + q) = ((p + q : Nat) : Int) by omega, this]
  have er : gRep (.list [.int c]) (.int k) = some (.list (intsD (List.replicate k (c : Int)))) := by
    have : k = 0 ∨ k = 1 := by omega
    rcases this with rfl | rfl
    · unfold gRep; dsimp only; rw [if_pos (by refine ⟨by decide, by decide, ?_⟩; rw [sizeLine_eq, List.length_singleton]; decide)]; rfl
    · unfold gRep; dsimp only; rw [if_pos (by refine ⟨by decide, by decide, ?_⟩; rw [sizeLine_eq, List.length_singleton]; decide)]; rfl
  have lq : ((b.drop p).take q).length ≤ q := List.length_take_le _ _
  have l1 : (intsD acc).length + (intsD ((b.drop p).take q)).length ≤ sizeLine := by rw [intsD_len, intsD_len, sizeLine_eq]; omega
  have l2 : (intsD acc ++ intsD ((b.drop p).take q)).length + (intsD (List.replicate k (c : Int))).length ≤ sizeLine := by rw [List.length_append, intsD_len, intsD_len, intsD_len, List.length_replicate, sizeLine_eq]; omega
  have ap : intsD acc ++ intsD ((b.drop p).take q) ++ intsD (List.replicate k (c : Int)) = intsD (acc ++ (b.drop p).take q ++ List.replicate k (c : Int)) := by simp [intsD]
  refine ⟨acc ++ (b.drop p).take q ++ List.replicate k (c : Int), some (.d (.int p)), D4, ?_, fun x m => ?_, ?_, t4.mono (by omega)⟩
  · unfold w_l_of_parts_1
    rw [s_seq, s_set]
    simp only [e_callD, e_cons, e_o2, e_u1, e_var, e_c, e_nil, List.getElem?_cons_succ, List.getElem?_cons_zero, view_d, ofO_some, bind_ok, x_lenL, intsD_len, x_add, List.length_cons, List.length_nil, if_true, e1, List.set_cons_succ, List.set_cons_zero]
    rw [s_set]
    simp only [e_callD, e_cons, e_o2, e_sl, e_part, e_lst, e_u1, e_var, e_c, e_nil, List.getElem?_cons_succ, List.getElem?_cons_zero, view_d, ofO_some, bind_ok, x_add, x_slL, List.length_cons, List.length_nil, Nat.zero_add, Nat.reduceLeDiff, if_true, e2, e3, e4, ec, x_addL, l1, er, l2, ap, List.set_cons_succ, List.set_cons_zero]
  · rcases List.mem_append.mp m with m | m
    · rcases List.mem_append.mp m with m | m
      · exact ha x m
      · exact (hb.drop p).take q x m
    · rw [List.eq_of_mem_replicate m]; omega
  · rw [List.length_append, List.length_append, List.length_replicate]; omega
theorem parts_loop {b : List Int} (hb : C63 b) (lb : b.length ≤ 1000) : ∀ (r : List PyData) (acc : List Int) (y3 y4 : Option Fx.T) (D : Dw) (n : Int), C63 acc → acc.length + 13 * r.length ≤ 10000 → Tn D n → n + 4 * r.length ≤ 700000000 →
    ∃ acc' z3 z4 D', Sv.loop (Gv.name 3) w_l_of_parts_1 r (enO b acc y3 y4) D = .ok (.nx, enO b acc' z3 z4) D' ∧ C63 acc' ∧ acc'.length ≤ 10000 ∧ Tn D' (n + 4 * r.length)
  | [], acc, y3, y4, D, n, ha, la, h, _ => ⟨acc, y3, y4, D, rfl, ha, by simpa using la, by simpa using h⟩
  | x :: r, acc, y3, y4, D, n, ha, la, h, hn => by
    rw [List.length_cons] at la hn
    obtain ⟨acc1, w4, D1, e1, h1, l1, t1⟩ := parts_turn hb lb ha (by omega) (some (.d x)) y4 D n h (by omega)
    obtain ⟨acc2, z3, z4, D2, e2, h2, l2, t2⟩ := parts_loop hb lb r acc1 (some (.d x)) w4 D1 (n + 4) h1 (by omega) t1 (by omega)
    refine ⟨acc2, z3, z4, D2, ?_, h2, l2, t2.mono (by rw [List.length_cons]; omega)⟩
    unfold Sv.loop
    rw [g_name]
    dsimp only [List.set_cons_succ, List.set_cons_zero]
    rw [e1, bind_ok]
    exact e2
theorem f_l_of_parts_eq {b : List Int} (hb : C63 b) (lb : b.length ≤ 1000) (D : Dw) (n : Int) (h : Tn D n) (hn : n ≤ 600000000) : ∃ (cs : List Int) (D' : Dw), f_l_of_parts [.list (intsD b)] D = .ok (.list (intsD cs)) D' ∧ C63 cs ∧ cs.length ≤ 40 ∧ Tn D' (n + 100) := by
  obtain ⟨v, D1, e1, hv, t1⟩ := take_nat (many := 6) h (by decide) (by decide) (by omega)
  have e1 : f_l_take [.int 6] D = .ok (.int v) D1 := e1
  obtain ⟨acc, z3, z4, D2, e2, ha, la, t2⟩ := parts_loop hb lb ((List.range v).map fun (i : Nat) => .int (i : Int)) [] none none D1 (n + 1) (fun c m => absurd m List.not_mem_nil) (by simp; omega) t1 (by simp; omega)
  have e2 : Sv.loop (Gv.name 3) w_l_of_parts_1 ((List.range v).map fun (i : Nat) => .int (i : Int)) [some .w, some (.d (.list (intsD b))), some (.d (.list [])), none, none] D1 = .ok (.nx, enO b acc z3 z4) D2 := e2
  have er : Iv.range1 (Ev.callD 0 1 f_l_take (Ev.cons (Ev.c (.int 6)) Ev.nil)) [some .w, some (.d (.list (intsD b))), some (.d (.list [])), none, none] D = .ok ((List.range v).map fun (i : Nat) => .int (i : Int)) D1 := by
    have a1 : (v : Int) < 10000000 := by omega
    have a2 : (-10000000 : Int) < v := by omega
    rw [i_range1]
    simp only [e_callD, List.getElem?_cons_zero, e_cons, e_c, e_nil, bind_ok, List.length_cons, List.length_nil, if_true, e1]
    rw [if_pos ⟨a1, a2⟩, Int.toNat_natCast]
  have ec : Fx.cutD (intsD acc) none (some 40) = intsD (acc.take 40) := by
    have := cut_ints acc 0 40
    rw [Nat.sub_zero, List.drop_zero] at this
    rw [← this]
    unfold Fx.cutD
    simp [HT.sIx]
  refine ⟨acc.take 40, D2, ?_, ha.take 40, List.length_take_le _ _, t2.mono (by simp; omega)⟩
  simp [-i_range1, f_l_of_parts, b_l_of_parts, er, e2, ec]
end K78
set_option Elab.async false
set_option linter.all false
set_option maxRecDepth 100000
set_option maxHeartbeats 4000000
namespace K78
open PySem PySem.Spec PyProof.Rows L2 Kb Fx
variable [Nm]
/-! ### _law_made_by -/
abbrev enJ (b : List Int) (sts : List Stp) (acc : List Int) (y : Option Fx.T) : Fx.Env := [some (.d (.list (intsD b))), some (.d (.tuple (sts.map stD))), some (.d (.list (intsD acc))), y]
theorem made_turn {b : List Int} {sts : List Stp} (lb : b.length ≤ 1000) {acc : List Int} (la : acc.length ≤ 100000) {s : Stp} (hs : StOk b.length s) (D : Dw) :
    w_l_made_by_1 (enJ b sts acc (some (.d (stD s)))) D = .ok (.nx, enJ b sts (acc ++ segOf b s) (some (.d (stD s)))) D := by
  have c1 : gEq (.str "cell") (.str "cell") = some (.bool true) := by rw [eqS ok_cell ok_cell]; rfl
  have c2 : gEq (.str "copy") (.str "cell") = some (.bool false) := by rw [eqS ok_copy ok_cell]; rfl
  have c3 : gEq (.str "copy") (.str "copy") = some (.bool true) := by rw [eqS ok_copy ok_copy]; rfl
  have c4 : gEq (.str "cell") (.str "copy") = some (.bool false) := by rw [eqS ok_cell ok_copy]; rfl
  have sh : ∀ x : Str, PyData.strOk x = true → SeqAt.shaped (.str x) = true := fun x h => by simp [SeqAt.shaped, PyData.canLay0, PyData.depth, h]
  have shl : SeqAt.shaped (.list [.str "cell", .str "copy"]) = true := by simp [SeqAt.shaped, PyData.canLay0, PyData.canLayAll0, PyData.depth, PyData.depthAll, ok_cell, ok_copy]
  have n1 : gNotIn (.str "cell") (.list [.str "cell", .str "copy"]) = some (.bool false) := by
    unfold gNotIn inD
    simp only [sh _ ok_cell, shl, Bool.and_self, if_true]
    rfl
  have n2 : gNotIn (.str "copy") (.list [.str "cell", .str "copy"]) = some (.bool false) := by
    unfold gNotIn inD
    simp only [sh _ ok_copy, shl, Bool.and_self, if_true]
    rfl
  have l1 : (intsD acc).length + (intsD (segOf b s)).length ≤ sizeLine := by
    have := seg_le (b := b) (n := 0) s
    rw [intsD_len, intsD_len, sizeLine_eq]; omega
  have ap : intsD acc ++ intsD (segOf b s) = intsD (acc ++ segOf b s) := by simp [intsD]
  have s1 : Ev.tor (Ev.tnot (Ev.tt (Ev.u1 (isiD "tuple") (Ev.var 3)))) (Ev.tor (Ev.tb (Ev.o2 gNotIn (Ev.o2 gIx (Ev.var 3) (Ev.c (.int 0))) (Ev.lst (Ev.cons (Ev.c (.str "cell")) (Ev.cons (Ev.c (.str "copy")) Ev.nil))))) (Ev.tb (Ev.o2 gNe (Ev.u1 lenD (Ev.var 3)) (Ev.ifx (Ev.tb (Ev.o2 gEq (Ev.o2 gIx (Ev.var 3) (Ev.c (.int 0))) (Ev.c (.str "cell")))) (Ev.c (.int 2)) (Ev.c (.int 3)))))) (enJ b sts acc (some (.d (stD s)))) D = .ok false D := by
    cases s with
    | cell c =>
      have it : isiD "tuple" (stD (.cell c)) = some (.bool true) := by rw [isi_tuple (lay_st _).noErr]; rfl
      simp only [stD] at it
      simp [stD, it, n1, c1]
    | copy i m =>
      have it : isiD "tuple" (stD (.copy i m)) = some (.bool true) := by rw [isi_tuple (lay_st _).noErr]; rfl
      simp only [stD] at it
      simp [stD, it, n2, c2]
  have s2 : Ev.tand (Ev.tb (Ev.o2 gEq (Ev.o2 gIx (Ev.var 3) (Ev.c (.int 0))) (Ev.c (.str "copy")))) (Ev.tnot (Ev.tb (Ev.ch3 cLe cLt cLe (Ev.c (.int 0)) (Ev.o2 gIx (Ev.var 3) (Ev.c (.int 1))) (Ev.o2 gAdd (Ev.o2 gIx (Ev.var 3) (Ev.c (.int 1))) (Ev.o2 gIx (Ev.var 3) (Ev.c (.int 2)))) (Ev.u1 lenD (Ev.var 0))))) (enJ b sts acc (some (.d (stD s)))) D = .ok false D := by
    cases s with
    | cell c => simp [stD, c4]
    | copy i m =>
      obtain ⟨h1, h2⟩ := hs
      have a2 : (i : Int) < (i : Int) + m := by omega
      have a3 : (i : Int) + m ≤ b.length := by omega
      have a4 : 0 < m := by omega
      simp [Ev.ch3, stD, c3, at_1, at_2, intsD_len, a2, a3, a4]
  have s3 : Ev.ifx (Ev.tb (Ev.o2 gEq (Ev.o2 gIx (Ev.var 3) (Ev.c (.int 0))) (Ev.c (.str "cell")))) (Ev.lst (Ev.cons (Ev.o2 gIx (Ev.var 3) (Ev.c (.int 1))) Ev.nil)) (Ev.sl (Ev.var 0) (Ev.part (Ev.o2 gIx (Ev.var 3) (Ev.c (.int 1)))) (Ev.part (Ev.o2 gAdd (Ev.o2 gIx (Ev.var 3) (Ev.c (.int 1))) (Ev.o2 gIx (Ev.var 3) (Ev.c (.int 2)))))) (enJ b sts acc (some (.d (stD s)))) D = .ok (.list (intsD (segOf b s))) D := by
    cases s with
    | cell c => simp [stD, c1, segOf, intsD]
    | copy i m =>
      have ec : Fx.cutD (intsD b) (some (i : Int)) (some ((i : Int) + m)) = intsD ((b.drop i).take m) := by
        have := cut_ints b i (i + m)
        rw [Nat.add_sub_cancel_left] at this
        rw [show ((i : Int) + m) = ((i + m : Nat) : Int) by omega, this]
      simp [stD, c2, segOf, ec]
  unfold w_l_made_by_1
  rw [s_seq, s_ite, s1]
  simp only [bind_ok, Bool.false_eq_true, if_false, s_skip]
  rw [s_seq, s_ite, s2]
  simp only [bind_ok, Bool.false_eq_true, if_false, s_skip]
  rw [s_set, e_o2]
  simp only [e_var, List.getElem?_cons_succ, List.getElem?_cons_zero, view_d, ofO_some, bind_ok]
  rw [s3]
  simp only [bind_ok, x_addL, l1, if_true, ap, ofO_some]
  rfl
theorem made_loop {b : List Int} {sts : List Stp} (lb : b.length ≤ 1000) (D : Dw) : ∀ (r : List Stp) (acc : List Int) (y : Option Fx.T), (∀ s ∈ r, StOk b.length s) → acc.length + r.length * 1001 ≤ 100000 →
    ∃ z, Sv.loop (Gv.name 3) w_l_made_by_1 (r.map stD) (enJ b sts acc y) D = .ok (.nx, enJ b sts (acc ++ allSeg b r) z) D
  | [], acc, y, _, _ => ⟨y, by simp [allSeg, Sv.loop]⟩
  | s :: r, acc, y, hs, hl => by
    rw [List.length_cons, Nat.add_mul] at hl
    have sl := seg_le (b := b) (n := 0) s
    obtain ⟨z, e⟩ := made_loop lb D r (acc ++ segOf b s) (some (.d (stD s))) (fun u m => hs u (List.mem_cons_of_mem _ m)) (by rw [List.length_append]; omega)
    refine ⟨z, ?_⟩
    rw [List.map_cons]
    unfold Sv.loop
    rw [g_name]
    dsimp only [List.set_cons_succ, List.set_cons_zero]
    rw [made_turn lb (by omega) (hs s List.mem_cons_self) D, bind_ok]
    dsimp only
    rw [e]
    simp [allSeg]
theorem f_l_made_by_eq {b : List Int} {sts : List Stp} (lb : b.length ≤ 1000) (hs : ∀ s ∈ sts, StOk b.length s) (ls : sts.length ≤ 90) (D : Dw) : f_l_made_by [.list (intsD b), .tuple (sts.map stD)] D = .ok (.list (intsD (allSeg b sts))) D := by
  obtain ⟨z, e⟩ := made_loop (sts := sts) lb D sts [] none hs (by rw [List.length_nil]; omega)
  have e : Sv.loop (Gv.name 3) w_l_made_by_1 (sts.map stD) [some (.d (.list (intsD b))), some (.d (.tuple (sts.map stD))), some (.d (.list [])), none] D = .ok (.nx, enJ b sts (allSeg b sts) z) D := e
  simp [f_l_made_by, b_l_made_by, e]
end K78
set_option Elab.async false
set_option linter.all false
set_option maxRecDepth 100000
set_option maxHeartbeats 4000000
namespace K78
open PySem PySem.Spec PyProof.Rows L2 Kb Fx
variable [Nm]
/-! ### runs that are none -/
structure NoRun (d : PyData) : Prop where
  err : isErrD d = false
  bad : cellsB d = false
  len : ∀ xs, seqOf d = some xs → xs.length < 10000000 ∧ ∀ x ∈ xs, isErrD x = false
theorem are_bad {d : PyData} (h : NoRun d) (D : Dw) : f_are_cells [d] D = .ok (.bool false) D := by
  rw [f_are_cells_eq d h.err h.len, h.bad]
theorem text_bad {d : PyData} (h : NoRun d) (D : Dw) : f_text_of [d] D = .err "BadRun" [] D := by
  simp [f_text_of, b_text_of, are_bad h]
theorem patch_bad1 {d e : PyData} (h : NoRun d) (D : Dw) : f_patch [d, e] D = .err "BadRun" [] D := by
  simp [f_patch, b_patch, text_bad h]
theorem patch_bad2 {d e : PyData} {x : Str} (h : NoRun d) (D : Dw) (ht : f_text_of [e] D = .ok (.str x) D) : f_patch [e, d] D = .err "BadRun" [] D := by
  simp [f_patch, b_patch, text_bad h, ht]
theorem rifts_bad1 {d e : PyData} (h : NoRun d) (D : Dw) : f_rifts [d, e] D = .err "BadRun" [] D := by
  simp [f_rifts, b_rifts, text_bad h]
theorem rifts_bad2 {d e : PyData} {x : Str} (h : NoRun d) (D : Dw) (ht : f_text_of [e] D = .ok (.str x) D) : f_rifts [e, d] D = .err "BadRun" [] D := by
  simp [f_rifts, b_rifts, text_bad h, ht]
theorem is_rifts_bad {d e t : PyData} {x : Str} (h : NoRun d) (D : Dw) (ht : f_text_of [e] D = .ok (.str x) D) : f_is_rifts [e, d, t] D = .err "BadRun" [] D := by
  simp [f_is_rifts, b_is_rifts, Sv.asg, text_bad h, ht]
theorem patched_bad0 {d e : PyData} (h : NoRun d) (D : Dw) : f_patched [d, e] D = .err "BadRun" [] D := by
  simp [f_patched, b_patched, are_bad h]
def odds : List PyData := [.list [.int 64], .list [.int (-1)], .list [.bool true], .str "ab", .none, .int 5, .list [.int 1, .str "a"], .list [.list [.int 1]]]
theorem odds_bad : ∀ d ∈ odds, NoRun d := by
  intro d m
  simp only [odds, List.mem_cons, List.not_mem_nil, or_false] at m
  rcases m with rfl | rfl | rfl | rfl | rfl | rfl | rfl | rfl
  all_goals refine ⟨rfl, rfl, fun xs e => ?_⟩
  all_goals first
    | (cases e; refine ⟨by simp, fun x m => ?_⟩; simp only [List.mem_cons, List.not_mem_nil, or_false] at m; first | (subst m; rfl) | (rcases m with rfl | rfl <;> rfl))
    | cases e
end K78
set_option Elab.async false
set_option linter.all false
set_option maxRecDepth 100000
set_option maxHeartbeats 4000000
namespace K78
open PySem PySem.Spec PyProof.Rows L2 Kb Fx
variable [Nm]
theorem ch_row {b a : List Int} : ∀ (ps : List (Nat × Nat)) (x : Nat), Ch b a x ps a.length → rowB b a x (ps.dropLast.map prN) = true
  | [], _, _ => rfl
  | [p], _, _ => rfl
  | (u, v) :: q :: r, x, ⟨h1, h2, h3⟩ => by
    obtain ⟨u', v'⟩ := q
    have ih := ch_row ((u', v') :: r) v h3
    have hv : v < a.length := by
      have := h3.len
      have e := h3.1
      have := h3.2.1.lt
      have := h3.2.1.le
      omega
    have lt := h2.lt
    have no := h2.no hv
    have sb : segB b a u v = false := by
      rw [segB_nat]
      unfold stB at no
      rw [Bool.and_eq_false_iff] at no
      rcases no with no | no
      · exact absurd (of_decide_eq_false no) (by omega)
      · exact no
    have e : ((u, v) :: (u', v') :: r).dropLast.map prN = .tuple [.int u, .int v] :: ((u', v') :: r).dropLast.map prN := rfl
    rw [e]
    have r1 : rowB b a (x : Int) (.tuple [.int u, .int v] :: ((u', v') :: r).dropLast.map prN) = (decide ((x : Int) ≤ u) && (decide ((u : Int) < v) && (decide ((v : Int) < a.length) && (!segB b a u v && rowB b a v (((u', v') :: r).dropLast.map prN))))) := rfl
    rw [r1, ih, sb]
    have a1 : (x : Int) ≤ u := by omega
    have a2 : (u : Int) < v := by omega
    have a3 : (v : Int) < a.length := by omega
    simp [a1, a2, a3]

abbrev enL (ns : List Int) (v3 v4 v5 v6 v7 v8 y2 y9 y10 y11 y12 : Option Fx.T) : Fx.Env := [some (.sc ns), some .w, y2, v3, v4, v5, v6, v7, v8, y9, y10, y11, y12, none]
abbrev dL (cs : List Int) : Option Fx.T := some (.d (.list (intsD cs)))
/-- the walk over the rifts -/
theorem rift_turn (ns : List Int) {b a : List Int} (lb : b.length ≤ 1000) (la : a.length ≤ 1000) (v5 v6 v7 v8 y2 y11 y12 : Option Fx.T) {last u v : Nat} (h1 : last ≤ u) (h2 : u < v) (h3 : v < a.length) (h4 : segB b a u v = false) (D : Dw) :
    w_law_2 (enL ns (dL b) (dL a) v5 v6 v7 v8 y2 (some (.d (.int last))) (some (.d (.tuple [.int u, .int v]))) y11 y12) D = .ok (.nx, enL ns (dL b) (dL a) v5 v6 v7 v8 y2 (some (.d (.int v))) (some (.d (.tuple [.int u, .int v]))) y11 y12) D := by
  have it : isiD "tuple" (.tuple [.int u, .int v]) = some (.bool true) := by rw [isi_tuple rfl]; rfl
  have a1 : (last : Int) ≤ u := by omega
  have a2 : (u : Int) < v := by omega
  have a3 : (v : Int) < a.length := by omega
  have ec : Fx.cutD (intsD a) (some (u : Int)) (some ((v : Int) + 1)) = intsD ((a.drop u).take (v + 1 - u)) := cut_ints a u (v + 1)
  have hseg : (a.drop u).take (v + 1 - u) ≠ [] := fun z => by
    have := congrArg List.length z
    rw [List.length_take, List.length_drop, List.length_nil] at this
    omega
  have hw := f_l_within_eq hseg lb (by rw [List.length_take, List.length_drop]; omega) D
  rw [segB_nat] at h4
  rw [h4] at hw
  have s1 : Ev.tor (Ev.tnot (Ev.tt (Ev.u1 (isiD "tuple") (Ev.var 10)))) (Ev.tor (Ev.tb (Ev.o2 gNe (Ev.u1 lenD (Ev.var 10)) (Ev.c (.int 2)))) (Ev.tnot (Ev.tb (Ev.ch3 cLe cLt cLt (Ev.var 9) (Ev.o2 gIx (Ev.var 10) (Ev.c (.int 0))) (Ev.o2 gIx (Ev.var 10) (Ev.c (.int 1))) (Ev.u1 lenD (Ev.var 4)))))) (enL ns (dL b) (dL a) v5 v6 v7 v8 y2 (some (.d (.int last))) (some (.d (.tuple [.int u, .int v]))) y11 y12) D = .ok false D := by
    simp [it, Ev.ch3, at_0, at_1, intsD_len, h1, h2, h3]
  have s2 : Ev.tt (Ev.call0 2 f_l_within (Ev.cons (Ev.dat 3) (Ev.cons (Ev.sl (Ev.var 4) (Ev.part (Ev.o2 gIx (Ev.var 10) (Ev.c (.int 0)))) (Ev.part (Ev.o2 gAdd (Ev.o2 gIx (Ev.var 10) (Ev.c (.int 1))) (Ev.c (.int 1))))) Ev.nil))) (enL ns (dL b) (dL a) v5 v6 v7 v8 y2 (some (.d (.int last))) (some (.d (.tuple [.int u, .int v]))) y11 y12) D = .ok false D := by
    simp [at_0, at_1, ec, hw]
  unfold w_law_2
  rw [s_seq, s_ite, s1]
  simp only [bind_ok, Bool.false_eq_true, if_false, s_skip]
  rw [s_seq, s_ite, s2]
  simp only [bind_ok, Bool.false_eq_true, if_false, s_skip]
  simp [at_1]
theorem rift_loop (ns : List Int) {b a : List Int} (lb : b.length ≤ 1000) (la : a.length ≤ 1000) (v5 v6 v7 v8 y2 y11 y12 : Option Fx.T) (D : Dw) : ∀ (r : List (Nat × Nat)) (last : Nat) (y10 : Option Fx.T), rowB b a last (r.map prN) = true →
    ∃ z9 z10, Sv.loop (Gv.name 10) w_law_2 (r.map prN) (enL ns (dL b) (dL a) v5 v6 v7 v8 y2 (some (.d (.int last))) y10 y11 y12) D = .ok (.nx, enL ns (dL b) (dL a) v5 v6 v7 v8 y2 z9 z10 y11 y12) D
  | [], last, y10, _ => ⟨_, y10, rfl⟩
  | (u, v) :: r, last, y10, h => by
    have r1 : rowB b a (last : Int) (((u, v) :: r).map prN) = (decide ((last : Int) ≤ u) && (decide ((u : Int) < v) && (decide ((v : Int) < a.length) && (!segB b a u v && rowB b a v (r.map prN))))) := rfl
    rw [r1] at h
    simp only [Bool.and_eq_true, decide_eq_true_eq, Bool.not_eq_true'] at h
    obtain ⟨h1, h2, h3, h4, h5⟩ := h
    obtain ⟨z9, z10, e⟩ := rift_loop ns lb la v5 v6 v7 v8 y2 y11 y12 D r v (some (.d (.tuple [.int u, .int v]))) h5
    refine ⟨z9, z10, ?_⟩
    rw [List.map_cons]
    unfold Sv.loop
    rw [g_name]
    dsimp only [List.set_cons_succ, List.set_cons_zero, prN]
    rw [rift_turn ns lb la v5 v6 v7 v8 y2 y11 y12 (by omega) (by omega) (by omega) h4 D, bind_ok]
    exact e
end K78
set_option Elab.async false
set_option linter.all false
set_option maxRecDepth 100000
set_option maxHeartbeats 4000000
namespace K78
open PySem PySem.Spec PyProof.Rows L2 Kb Fx
variable [Nm]
abbrev E0 : PyData := errD "BadRun" []
theorem caught_bad {F : List PyData → Dw → R PyData} {n : Nat} {aa : EA} {ρ : Fx.Env} {D : Dw} {ds : List PyData} (h1 : aa (dropO ρ) D = .ok ds D) (h2 : ds.length = n) (h3 : F ds D = .err "BadRun" [] D) : Ev.caught errs (Ev.callE n F aa) ρ D = .ok E0 D := by
  have hm : ("BadRun" : Str) ∈ errs := by decide +kernel
  rw [e_caught, e_callE, h1, bind_ok, if_pos h2, h3]
  simp only [hm, if_true]
theorem no_err (ns : List Int) (v3 v4 v5 v6 v7 v8 y2 y9 y10 y11 y12 : Option Fx.T) (D : Dw) : ∀ k : Nat, Ev.lcLoop (wipeE (enL ns v3 v4 v5 v6 v7 v8 y2 y9 y10 y11 y12) [13]) (Gv.name 13) t_law_1 (Ev.dat 13) (List.replicate k E0) D = .ok [] D := by
  intro k
  have hm : ("BadRun" : Str) ∈ errs := by decide +kernel
  have q1 : subE "BadRun" "BadRun" = true := by decide +kernel
  have q2 : subE "BadRun" "BadPatch" = false := by decide +kernel
  have t1 : gIsE errs subE "BadRun" E0 = some (.bool true) := by simp [gIsE, errD, hm, q1]
  have t2 : gIsE errs subE "BadPatch" E0 = some (.bool false) := by simp [gIsE, errD, hm, q2]
  have := lc_filt (ρ := wipeE (enL ns v3 v4 v5 v6 v7 v8 y2 y9 y10 y11 y12) [13]) (g := Gv.name 13) (t := t_law_1) (a := Ev.dat 13) (fun _ => false) id D (List.replicate k E0) (fun d m => by
    rw [List.eq_of_mem_replicate m]
    refine ⟨_, rfl, ?_, rfl⟩
    simp only [t_law_1, e_tor, e_tnot, e_tt, e_u1, e_var, wipeE, List.set_cons_succ, List.set_cons_zero, List.getElem?_cons_succ, List.getElem?_cons_zero, view_d, ofO_some, bind_ok, t1, t2, x_tb, Bool.not_true, Bool.false_eq_true, if_false])
  rw [this]
  simp
theorem law_turn (ns : List Int) (y3 y4 y5 y6 y7 y8 y2 y9 y10 y11 y12 : Option Fx.T) (D : Dw) (n : Int) (h : Tn D n) (hn : n ≤ 500000000) :
    ∃ z3 z4 z5 z6 z7 z8 z9 z10 z11 z12 D', w_law_3 (enL ns y3 y4 y5 y6 y7 y8 y2 y9 y10 y11 y12) D = .ok (.nx, enL ns z3 z4 z5 z6 z7 z8 y2 z9 z10 z11 z12) D' ∧ Tn D' (n + 1000) := by
  obtain ⟨b, D1, e1, hb, lb, t1⟩ := f_l_run_eq (many := 41) (by decide) (by decide) D n h (by omega)
  have e1 : f_l_run [.int 41] D = .ok (.list (intsD b)) D1 := e1
  obtain ⟨k, D2, e2, hk, t2⟩ := take_nat (many := 2) t1 (by decide) (by decide) (by omega)
  have e2 : f_l_take [.int 2] D1 = .ok (.int k) D2 := e2
  obtain ⟨a, D3, e3, ha, la, t3⟩ : ∃ (a : List Int) (D3 : Dw), Ev.ifx (Ev.tb (Ev.o2 gEq (Ev.callD 1 1 f_l_take (Ev.cons (Ev.c (.int 2)) Ev.nil)) (Ev.c (.int 0)))) (Ev.callD 1 1 f_l_run (Ev.cons (Ev.c (.int 30)) Ev.nil)) (Ev.callD 1 1 f_l_of_parts (Ev.cons (Ev.dat 3) Ev.nil)) (enL ns (dL b) y4 y5 y6 y7 y8 y2 y9 y10 y11 y12) D1 = .ok (.list (intsD a)) D3 ∧ C63 a ∧ a.length ≤ 40 ∧ Tn D3 (n + 500) := by
    by_cases hk0 : k = 0
    · obtain ⟨a, D3, e3, ha, la, t3⟩ := f_l_run_eq (many := 30) (by decide) (by decide) D2 _ t2 (by omega)
      have e3 : f_l_run [.int 30] D2 = .ok (.list (intsD a)) D3 := e3
      exact ⟨a, D3, by simp [e2, hk0, e3], ha, by omega, t3.mono (by omega)⟩
    · obtain ⟨a, D3, e3, ha, la, t3⟩ := f_l_of_parts_eq hb (by omega) D2 _ t2 (by omega)
      have : ¬ ((k : Int) = 0) := by omega
      exact ⟨a, D3, by simp [e2, hk0, e3], ha, la, t3.mono (by omega)⟩
  obtain ⟨ps, sts, p1, hc, p2, lst, ok, seg⟩ := f_patch_eq (da := .list (intsD a)) (db := .list (intsD b)) rfl rfl ha hb (by omega) (by omega) D3
  obtain ⟨ps2, sts2, p3, _, p4, lst2, _, _⟩ := f_patch_eq (da := .tuple (intsD a)) (db := .tuple (intsD b)) rfl rfl ha hb (by omega) (by omega) D3
  obtain ⟨ps3, r1, hc3, p5⟩ := f_rifts_eq (da := .list (intsD a)) (db := .list (intsD b)) rfl rfl ha hb (by omega) (by omega) D3
  have lc := hc.len
  have l32 : ps2.length = ps.length := by
    rw [p1] at p3
    injection p3 with p3 _
    injection p3 with p3
    have := congrArg List.length p3
    rw [List.length_map, List.length_map] at this
    exact this.symm
  have l33 : ps3.length = ps.length := by
    rw [p1] at p5
    injection p5 with p5 _
    injection p5 with p5
    have := congrArg List.length p5
    rw [List.length_map, List.length_map] at this
    exact this.symm
  have hrow : rowB b a 0 (ps3.dropLast.map prN) = true := ch_row ps3 0 hc3
  have ls90 : sts.length ≤ 90 := by omega
  have m1 := f_l_made_by_eq (b := b) (by omega) ok ls90 D3
  rw [seg] at m1
  have m2 := patched_good hb (by omega) ok (by omega) D3
  rw [seg] at m2
  obtain ⟨sh, rp1, rp2⟩ := repr_cells ha (by omega)
  obtain ⟨z9, z10, w1⟩ := rift_loop ns (b := b) (a := a) (by omega) (by omega) (dL b) (dL a) (some (.d (.tuple (sts.map stD)))) (some (.d (.tuple (ps3.dropLast.map prN)))) y2 y11 y12 D3 ps3.dropLast 0 y10 hrow
  have hlay : Lay (.tuple (ps3.dropLast.map prN)) := by
    have : ∀ qs : List (Nat × Nat), PyData.canLayAll0 (qs.map prN) = true := fun qs => by
      induction qs with
      | nil => rfl
      | cons p r ih =>
        show ((prN p).canLay0 && PyData.canLayAll0 (r.map prN)) = true
        rw [ih]; rfl
    unfold Lay
    rw [PyData.canLay0]
    exact this ps3.dropLast
  have ir := f_is_rifts_eq ha hb (by omega) (by omega) hlay (fun xs e => by cases e; rw [List.length_map, List.length_dropLast]; omega) D3
  have ir : f_is_rifts [.list (intsD b), .list (intsD a), .tuple (ps3.dropLast.map prN)] D3 = .ok (.bool true) D3 := by
    rw [ir]
    show R.ok (PyData.bool (rowB b a 0 (ps3.dropLast.map prN))) D3 = _
    rw [hrow]
  obtain ⟨odd, D4, o1, mo, t4⟩ := pick_spec (xs := odds) t3 (by simp [odds]) (by simp [odds]) (by omega)
  have nr := odds_bad odd mo
  have tb := f_text_of_eq (d := .list (intsD b)) rfl hb (by omega) D4
  refine ⟨dL b, dL a, dL b, dL a, some (.d (.tuple (sts.map stD))), some (.d (.tuple (ps3.dropLast.map prN))), z9, z10, some (.d odd), some (.d (.list [E0, E0, E0, E0, E0, E0])), D4, ?_, t4.mono (by omega)⟩
  have it1 : isiD "tuple" (.tuple (sts.map stD)) = some (.bool true) := by rw [isi_tuple rfl]; rfl
  have it2 : isiD "tuple" (.tuple (ps3.dropLast.map prN)) = some (.bool true) := by rw [isi_tuple rfl]; rfl
  have nb : gNe (.list (intsD b)) (.list (intsD b)) = some (.bool false) := by rw [neL, decide_eq_true rfl]; rfl
  have na : gNe (.list (intsD a)) (.list (intsD a)) = some (.bool false) := by rw [neL, decide_eq_true rfl]; rfl
  have s5 : Ev.tor (Ev.tnot (Ev.tt (Ev.u1 (isiD "tuple") (Ev.var 7)))) (Ev.tor (Ev.tnot (Ev.tt (Ev.u1 (isiD "tuple") (Ev.var 8)))) (Ev.tor (Ev.tb (Ev.o2 gNe (Ev.var 5) (Ev.var 3))) (Ev.tb (Ev.o2 gNe (Ev.var 6) (Ev.var 4))))) (enL ns (dL b) (dL a) (dL b) (dL a) (some (.d (.tuple (sts.map stD)))) (some (.d (.tuple (ps3.dropLast.map prN)))) y2 y9 y10 y11 y12) D3 = .ok false D3 := by
    simp [it1, it2, nb, na]
  have lens : (sts.length : Int) = (ps3.dropLast.length : Int) + (if a ≠ [] then 1 else 0) := by
    rw [List.length_dropLast, lst, l33]
    by_cases h0 : a = []
    · rw [if_neg (fun z => z h0)]
      rw [h0, List.length_nil] at lc
      omega
    · rw [if_pos h0]
      have : ps.length ≠ 0 := fun z => by
        rw [List.length_eq_zero_iff.mp z] at hc
        have hc : 0 = a.length := hc
        exact h0 (List.length_eq_zero_iff.mp hc.symm)
      omega
  have s6 : Ev.tor (Ev.tb (Ev.o2 gNe (Ev.call0 2 f_l_made_by (Ev.cons (Ev.dat 3) (Ev.cons (Ev.dat 7) Ev.nil))) (Ev.var 4))) (Ev.tor (Ev.tb (Ev.o2 gNe (Ev.u1 gRepr (Ev.call0 2 f_patched (Ev.cons (Ev.dat 5) (Ev.cons (Ev.dat 7) Ev.nil)))) (Ev.u1 gRepr (Ev.u1 gTuple (Ev.var 4))))) (Ev.tb (Ev.o2 gNe (Ev.u1 lenD (Ev.var 7)) (Ev.o2 gAdd (Ev.u1 lenD (Ev.var 8)) (Ev.ifx (Ev.tb (Ev.o2 gNe (Ev.var 4) (Ev.lst Ev.nil))) (Ev.c (.int 1)) (Ev.c (.int 0))))))) (enL ns (dL b) (dL a) (dL b) (dL a) (some (.d (.tuple (sts.map stD)))) (some (.d (.tuple (ps3.dropLast.map prN)))) y2 y9 y10 y11 y12) D3 = .ok false D3 := by
    by_cases h0 : a = []
    · have e0 : gNe (.list (intsD a)) (.list []) = some (.bool false) := by rw [nil_ne, decide_eq_true h0]; rfl
      rw [if_neg (fun z => z h0), Int.add_zero] at lens
      have lens' : (((sts.length : Int) == (ps3.dropLast.length : Int))) = true := by rw [lens]; simp
      simp only [e_tor, e_tb, e_o2, e_u1, e_call0, e_cons, e_dat, e_var, e_nil, e_ifx, e_lst, e_c, List.getElem?_cons_succ, List.getElem?_cons_zero, view_d, ofO_some, bind_ok, List.length_cons, List.length_nil, Nat.zero_add, Nat.reduceAdd, Nat.zero_le, if_true, m1, na, Bool.false_eq_true, if_false, m2, rp1, x_tupL, neS_self rp2, x_lenT, List.length_map, e0, x_add, Int.add_zero, neI, lens', Bool.not_true]
    · have e0 : gNe (.list (intsD a)) (.list []) = some (.bool true) := by rw [nil_ne, decide_eq_false h0]; rfl
      rw [if_pos h0] at lens
      have lens' : (((sts.length : Int) == (ps3.dropLast.length : Int) + 1)) = true := by rw [lens]; simp
      simp only [e_tor, e_tb, e_o2, e_u1, e_call0, e_cons, e_dat, e_var, e_nil, e_ifx, e_lst, e_c, List.getElem?_cons_succ, List.getElem?_cons_zero, view_d, ofO_some, bind_ok, List.length_cons, List.length_nil, Nat.zero_add, Nat.reduceAdd, Nat.zero_le, if_true, m1, na, Bool.false_eq_true, if_false, m2, rp1, x_tupL, neS_self rp2, x_lenT, List.length_map, e0, x_add, neI, lens', Bool.not_true]
  have s9 : Ev.tor (Ev.tb (Ev.o2 gNotB (Ev.call0 3 f_is_rifts (Ev.cons (Ev.dat 5) (Ev.cons (Ev.dat 6) (Ev.cons (Ev.dat 8) Ev.nil)))) (Ev.c (.bool true)))) (Ev.tb (Ev.o2 gNe (Ev.u1 lenD (Ev.call0 2 f_patch (Ev.sw2 (Ev.cons (Ev.u1 gTuple (Ev.var 4)) (Ev.cons (Ev.u1 gTuple (Ev.var 3)) Ev.nil))))) (Ev.u1 lenD (Ev.var 7)))) (enL ns (dL b) (dL a) (dL b) (dL a) (some (.d (.tuple (sts.map stD)))) (some (.d (.tuple (ps3.dropLast.map prN)))) y2 z9 z10 y11 y12) D3 = .ok false D3 := by
    have le : (((sts2.length : Int) == (sts.length : Int))) = true := by rw [lst2, l32, lst]; simp
    simp only [e_tor, e_tb, e_o2, e_u1, e_call0, e_cons, e_dat, e_var, e_c, e_nil, e_sw2, List.getElem?_cons_succ, List.getElem?_cons_zero, view_d, ofO_some, bind_ok, List.length_cons, List.length_nil, Nat.zero_add, Nat.reduceAdd, if_true, ir, x_notB, decide_true, Bool.not_true, Bool.false_eq_true, if_false, x_tupL, p4, x_lenT, List.length_map, neI, le]
  unfold w_law_3
  rw [s_seq, s_set]
  simp only [e_callD, e_cons, e_c, e_nil, List.getElem?_cons_succ, List.getElem?_cons_zero, bind_ok, List.length_cons, List.length_nil, if_true, e1, List.set_cons_succ, List.set_cons_zero]
  rw [s_seq, s_set, e3]
  simp only [bind_ok, List.set_cons_succ, List.set_cons_zero]
  have gl : ∀ xs : List PyData, gListU (.list xs) = some (.list xs) := fun _ => rfl
  rw [s_seq, s_par]
  simp only [e_u1, e_var, List.getElem?_cons_succ, List.getElem?_cons_zero, view_d, ofO_some, bind_ok, gl, List.set_cons_succ, List.set_cons_zero]
  rw [s_seq, s_par]
  simp only [e_call0, e_cons, e_dat, e_nil, List.getElem?_cons_succ, List.getElem?_cons_zero, bind_ok, List.length_cons, List.length_nil, if_true, p2, r1, List.set_cons_succ, List.set_cons_zero]
  rw [s_seq, s_ite, s5]; simp only [bind_ok, Bool.false_eq_true, if_false, s_skip]
  rw [s_seq, s_ite, s6]; simp only [bind_ok, Bool.false_eq_true, if_false, s_skip]
  rw [s_seq, s_set]
  simp only [e_c, bind_ok, List.set_cons_succ, List.set_cons_zero]
  rw [s_seq, s_for, i_items]
  simp only [e_dat, List.getElem?_cons_succ, List.getElem?_cons_zero, bind_ok]
  rw [show ((0 : Nat) : Int) = 0 from rfl] at w1
  rw [w1]
  simp only [bind_ok]
  rw [s_seq, s_ite, s9]; simp only [bind_ok, Bool.false_eq_true, if_false, s_skip]
  have o1 : f_l_pick [.list [.list [.int 64], .list [.int (-1)], .list [.bool true], .str "ab", .none, .int 5, .list [.int 1, .str "a"], .list [.list [.int 1]]]] D3 = .ok odd D4 := o1
  rw [s_seq, s_set]
  simp only [e_callD, e_cons, e_lst, e_c, e_u1, e_nil, x_neg, ofO_some, List.getElem?_cons_succ, List.getElem?_cons_zero, bind_ok, List.length_cons, List.length_nil, Nat.zero_add, Nat.reduceAdd, Nat.reduceLeDiff, if_true, o1, List.set_cons_succ, List.set_cons_zero]
  have k1 : ∀ w12 : Option Fx.T, Ev.caught errs (Ev.callE 2 f_patch (Ev.cons (Ev.dat 11) (Ev.cons (Ev.dat 4) Ev.nil))) (enL ns (dL b) (dL a) (dL b) (dL a) (some (.d (.tuple (sts.map stD)))) (some (.d (.tuple (ps3.dropLast.map prN)))) y2 z9 z10 (some (.d odd)) w12) D4 = .ok E0 D4 := fun w12 => caught_bad (ds := [odd, .list (intsD a)]) rfl rfl (patch_bad1 nr D4)
  have k2 : ∀ w12 : Option Fx.T, Ev.caught errs (Ev.callE 2 f_patch (Ev.cons (Ev.dat 3) (Ev.cons (Ev.dat 11) Ev.nil))) (enL ns (dL b) (dL a) (dL b) (dL a) (some (.d (.tuple (sts.map stD)))) (some (.d (.tuple (ps3.dropLast.map prN)))) y2 z9 z10 (some (.d odd)) w12) D4 = .ok E0 D4 := fun w12 => caught_bad (ds := [.list (intsD b), odd]) rfl rfl (patch_bad2 nr D4 tb)
  have k3 : ∀ w12 : Option Fx.T, Ev.caught errs (Ev.callE 2 f_rifts (Ev.cons (Ev.dat 11) (Ev.cons (Ev.dat 11) Ev.nil))) (enL ns (dL b) (dL a) (dL b) (dL a) (some (.d (.tuple (sts.map stD)))) (some (.d (.tuple (ps3.dropLast.map prN)))) y2 z9 z10 (some (.d odd)) w12) D4 = .ok E0 D4 := fun w12 => caught_bad (ds := [odd, odd]) rfl rfl (rifts_bad1 nr D4)
  have k4 : ∀ w12 : Option Fx.T, Ev.caught errs (Ev.callE 2 f_rifts (Ev.cons (Ev.dat 3) (Ev.cons (Ev.dat 11) Ev.nil))) (enL ns (dL b) (dL a) (dL b) (dL a) (some (.d (.tuple (sts.map stD)))) (some (.d (.tuple (ps3.dropLast.map prN)))) y2 z9 z10 (some (.d odd)) w12) D4 = .ok E0 D4 := fun w12 => caught_bad (ds := [.list (intsD b), odd]) rfl rfl (rifts_bad2 nr D4 tb)
  have k5 : ∀ w12 : Option Fx.T, Ev.caught errs (Ev.callE 2 f_patched (Ev.cons (Ev.dat 11) (Ev.cons (Ev.c (.int 5)) Ev.nil))) (enL ns (dL b) (dL a) (dL b) (dL a) (some (.d (.tuple (sts.map stD)))) (some (.d (.tuple (ps3.dropLast.map prN)))) y2 z9 z10 (some (.d odd)) w12) D4 = .ok E0 D4 := fun w12 => caught_bad (ds := [odd, .int 5]) rfl rfl (patched_bad0 nr D4)
  have k6 : ∀ w12 : Option Fx.T, Ev.caught errs (Ev.callE 3 f_is_rifts (Ev.cons (Ev.dat 3) (Ev.cons (Ev.dat 11) (Ev.cons (Ev.tup Ev.nil) Ev.nil)))) (enL ns (dL b) (dL a) (dL b) (dL a) (some (.d (.tuple (sts.map stD)))) (some (.d (.tuple (ps3.dropLast.map prN)))) y2 z9 z10 (some (.d odd)) w12) D4 = .ok E0 D4 := fun w12 => caught_bad (ds := [.list (intsD b), odd, .tuple []]) rfl rfl (is_rifts_bad nr D4 tb)
  rw [s_seq, s_setO]
  simp only [e_lst, e_cons, k1, e_nil, bind_ok, List.length_cons, List.length_nil, Nat.zero_add, Nat.reduceLeDiff, if_true, Sv.ownT, ofO_some, List.set_cons_succ, List.set_cons_zero]
  rw [s_seq, s_append]
  simp only [List.getElem?_cons_succ, List.getElem?_cons_zero, k2, bind_ok, List.length_append, List.length_cons, List.length_nil, Nat.zero_add, Nat.reduceAdd, Nat.reduceLT, if_true, List.set_cons_succ, List.set_cons_zero, List.cons_append, List.nil_append]
  rw [s_seq, s_append]
  simp only [List.getElem?_cons_succ, List.getElem?_cons_zero, k3, bind_ok, List.length_append, List.length_cons, List.length_nil, Nat.zero_add, Nat.reduceAdd, Nat.reduceLT, if_true, List.set_cons_succ, List.set_cons_zero, List.cons_append, List.nil_append]
  rw [s_seq, s_append]
  simp only [List.getElem?_cons_succ, List.getElem?_cons_zero, k4, bind_ok, List.length_append, List.length_cons, List.length_nil, Nat.zero_add, Nat.reduceAdd, Nat.reduceLT, if_true, List.set_cons_succ, List.set_cons_zero, List.cons_append, List.nil_append]
  rw [s_seq, s_append]
  simp only [List.getElem?_cons_succ, List.getElem?_cons_zero, k5, bind_ok, List.length_append, List.length_cons, List.length_nil, Nat.zero_add, Nat.reduceAdd, Nat.reduceLT, if_true, List.set_cons_succ, List.set_cons_zero, List.cons_append, List.nil_append]
  rw [s_seq, s_append]
  simp only [List.getElem?_cons_succ, List.getElem?_cons_zero, k6, bind_ok, List.length_append, List.length_cons, List.length_nil, Nat.zero_add, Nat.reduceAdd, Nat.reduceLT, if_true, List.set_cons_succ, List.set_cons_zero, List.cons_append, List.nil_append]
  have ne6 := no_err ns (dL b) (dL a) (dL b) (dL a) (some (.d (.tuple (sts.map stD)))) (some (.d (.tuple (ps3.dropLast.map prN)))) y2 z9 z10 (some (.d odd)) (some (.d (.list [E0, E0, E0, E0, E0, E0]))) D4 6
  have ne6 : Ev.lcLoop (wipeE (enL ns (dL b) (dL a) (dL b) (dL a) (some (.d (.tuple (sts.map stD)))) (some (.d (.tuple (ps3.dropLast.map prN)))) y2 z9 z10 (some (.d odd)) (some (.d (.list [E0, E0, E0, E0, E0, E0])))) [13]) (Gv.name 13) t_law_1 (Ev.dat 13) [E0, E0, E0, E0, E0, E0] D4 = .ok [] D4 := ne6
  have no : Ev.noOwn (enL ns (dL b) (dL a) (dL b) (dL a) (some (.d (.tuple (sts.map stD)))) (some (.d (.tuple (ps3.dropLast.map prN)))) y2 z9 z10 (some (.d odd)) (some (.d (.list [E0, E0, E0, E0, E0, E0])))) [13] = true := rfl
  have gn : gNe (.list []) (.list []) = some (.bool false) := rfl
  have fin : Ev.tb (Ev.o2 gNe (Ev.lc [13] (Iv.items (Ev.dat 12)) (Gv.name 13) t_law_1 (Ev.dat 13)) (Ev.lst Ev.nil)) (enL ns (dL b) (dL a) (dL b) (dL a) (some (.d (.tuple (sts.map stD)))) (some (.d (.tuple (ps3.dropLast.map prN)))) y2 z9 z10 (some (.d odd)) (some (.d (.list [E0, E0, E0, E0, E0, E0])))) D4 = .ok false D4 := by
    rw [e_tb, e_o2, e_lc, i_items]
    simp only [e_dat, List.getElem?_cons_succ, List.getElem?_cons_zero, bind_ok, no, List.length_cons, List.length_nil, Nat.zero_add, Nat.reduceAdd, Nat.reduceLT, and_self, if_true, ne6, e_lst, e_nil, Nat.zero_le, gn, ofO_some]
  rw [s_frz]
  simp only [List.getElem?_cons_succ, List.getElem?_cons_zero, view_l, List.set_cons_succ, List.set_cons_zero]
  rw [s_ite, fin]
  simp only [bind_ok, Bool.false_eq_true, if_false, s_skip]
theorem law_loop (ns : List Int) : ∀ (r : List PyData) (y2 y3 y4 y5 y6 y7 y8 y9 y10 y11 y12 : Option Fx.T) (D : Dw) (n : Int), Tn D n → n + 1000 * r.length ≤ 500000000 →
    ∃ ρ' D', Sv.loop (Gv.name 2) w_law_3 r (enL ns y3 y4 y5 y6 y7 y8 y2 y9 y10 y11 y12) D = .ok (.nx, ρ') D'
  | [], _, _, _, _, _, _, _, _, _, _, _, D, _, _, _ => ⟨_, D, rfl⟩
  | x :: r, y2, y3, y4, y5, y6, y7, y8, y9, y10, y11, y12, D, n, h, hn => by
    rw [List.length_cons] at hn
    obtain ⟨z3, z4, z5, z6, z7, z8, z9, z10, z11, z12, D1, e1, t1⟩ := law_turn ns y3 y4 y5 y6 y7 y8 (some (.d x)) y9 y10 y11 y12 D n h (by omega)
    obtain ⟨ρ', D2, e2⟩ := law_loop ns r (some (.d x)) z3 z4 z5 z6 z7 z8 z9 z10 z11 z12 D1 (n + 1000) t1 (by omega)
    refine ⟨ρ', D2, ?_⟩
    unfold Sv.loop
    rw [g_name]
    dsimp only [List.set_cons_succ, List.set_cons_zero]
    rw [e1, bind_ok]
    exact e2
theorem law_holds (ns : List Int) (hl : ns.length ≤ 63) (D : Dw) (ht : D.turn = 0) : ∃ ρ' D', b_law (envLaw 14 ns) D = .ok (.ret (.bool true), ρ') D' := by
  have lm : ((if (4 : Int) < (ns.length : Int) then 4 else (ns.length : Int)) : Int) ≤ 4 := by split <;> omega
  have lm0 : 0 ≤ ((if (4 : Int) < (ns.length : Int) then 4 else (ns.length : Int)) : Int) := by split <;> omega
  generalize hk : ((if (4 : Int) < (ns.length : Int) then 4 else (ns.length : Int)) : Int) = k at lm lm0
  obtain ⟨ρ', D', e⟩ := law_loop ns ((List.range (2 + k).toNat).map fun (i : Nat) => .int (i : Int)) none none none none none none none none none none none D 0 ⟨by omega, by omega⟩ (by rw [List.length_map, List.length_range]; omega)
  refine ⟨ρ', D', ?_⟩
  have e : Sv.loop (Gv.name 2) w_law_3 ((List.range (2 + k).toNat).map fun (i : Nat) => .int (i : Int)) (envLaw 14 ns) D = .ok (.nx, ρ') D' := e
  have er : Iv.range1 (Ev.o2 gAdd (Ev.c (.int 2)) (Ev.o2 (gI gMin2) (Ev.lenS 0) (Ev.c (.int 4)))) (envLaw 14 ns) D = .ok ((List.range (2 + k).toNat).map fun (i : Nat) => .int (i : Int)) D := by
    have g0 : (envLaw 14 ns)[0]? = some (some (.sc ns)) := rfl
    rw [i_range1]
    simp only [e_o2, e_lenS, g0, e_c, bind_ok, x_gI, x_min2, hk, ofO_some, x_add]
    rw [if_pos (by omega)]
  unfold b_law
  rw [s_seq, s_for, er, bind_ok, e, bind_ok]
  simp only [s_ret, e_c, bind_ok]
end K78
set_option Elab.async false
set_option linter.all false
set_option maxRecDepth 100000
set_option maxHeartbeats 0
namespace K78
open PySem PySem.Spec PyProof.Rows L2 Kb
/-! ### the head: facts by names -/
def d_is_number : He.DefD := ⟨("is_number", none), "is_number", "is_number", defArgs s_is_number, defBody s_is_number, defScope s_is_number, [], []⟩
def d_within : He.DefD := ⟨("within", none), "within", "within", defArgs s_within, defBody s_within, defScope s_within, [], []⟩
def d_is_cell : He.DefD := ⟨("is_cell", none), "is_cell", "is_cell", defArgs s_is_cell, defBody s_is_cell, defScope s_is_cell, [], []⟩
def d_are_cells : He.DefD := ⟨("are_cells", none), "are_cells", "are_cells", defArgs s_are_cells, defBody s_are_cells, defScope s_are_cells, [], []⟩
def d_is_word : He.DefD := ⟨("is_word", none), "is_word", "is_word", defArgs s_is_word, defBody s_is_word, defScope s_is_word, [], []⟩
def d_is_tagged : He.DefD := ⟨("is_tagged", none), "is_tagged", "is_tagged", defArgs s_is_tagged, defBody s_is_tagged, defScope s_is_tagged, [], []⟩
def d_is_tuple_of : He.DefD := ⟨("is_tuple_of", none), "is_tuple_of", "is_tuple_of", defArgs s_is_tuple_of, defBody s_is_tuple_of, defScope s_is_tuple_of, [], []⟩
def d_text_of : He.DefD := ⟨("text_of", none), "text_of", "text_of", defArgs s_text_of, defBody s_text_of, defScope s_text_of, [], []⟩
def d_patch : He.DefD := ⟨("patch", none), "patch", "patch", defArgs s_patch, defBody s_patch, defScope s_patch, [], []⟩
def d_parts_of : He.DefD := ⟨("parts_of", none), "parts_of", "parts_of", defArgs s_parts_of, defBody s_parts_of, defScope s_parts_of, [], []⟩
def d_longest : He.DefD := ⟨("longest", none), "longest", "longest", defArgs s_longest, defBody s_longest, defScope s_longest, [], []⟩
def d_stands : He.DefD := ⟨("stands", none), "stands", "stands", defArgs s_stands, defBody s_stands, defScope s_stands, [], []⟩
def d_patched : He.DefD := ⟨("patched", none), "patched", "patched", defArgs s_patched, defBody s_patched, defScope s_patched, [], []⟩
def d_is_step : He.DefD := ⟨("is_step", none), "is_step", "is_step", defArgs s_is_step, defBody s_is_step, defScope s_is_step, [], []⟩
def d_rifts : He.DefD := ⟨("rifts", none), "rifts", "rifts", defArgs s_rifts, defBody s_rifts, defScope s_rifts, [], []⟩
def d_is_rifts : He.DefD := ⟨("is_rifts", none), "is_rifts", "is_rifts", defArgs s_is_rifts, defBody s_is_rifts, defScope s_is_rifts, [], []⟩
def d_is_pair_below : He.DefD := ⟨("is_pair_below", none), "is_pair_below", "is_pair_below", defArgs s_is_pair_below, defBody s_is_pair_below, defScope s_is_pair_below, [], []⟩
def d_l_begun : He.DefD := ⟨("_law_begun", none), "_law_begun", "_law_begun", defArgs s_l_begun, defBody s_l_begun, defScope s_l_begun, [], []⟩
def d_l_mixed : He.DefD := ⟨("_law_mixed", none), "_law_mixed", "_law_mixed", defArgs s_l_mixed, defBody s_l_mixed, defScope s_l_mixed, [], []⟩
def d_l_take : He.DefD := ⟨("_law_take", none), "_law_take", "_law_take", defArgs s_l_take, defBody s_l_take, defScope s_l_take, [], []⟩
def d_l_pick : He.DefD := ⟨("_law_pick", none), "_law_pick", "_law_pick", defArgs s_l_pick, defBody s_l_pick, defScope s_l_pick, [], []⟩
def d_l_caught : He.DefD := ⟨("_law_caught", none), "_law_caught", "_law_caught", defArgs s_l_caught, defBody s_l_caught, defScope s_l_caught, [], []⟩
def d_l_run : He.DefD := ⟨("_law_run", none), "_law_run", "_law_run", defArgs s_l_run, defBody s_l_run, defScope s_l_run, [], []⟩
def d_l_of_parts : He.DefD := ⟨("_law_of_parts", none), "_law_of_parts", "_law_of_parts", defArgs s_l_of_parts, defBody s_l_of_parts, defScope s_l_of_parts, [], []⟩
def d_l_within : He.DefD := ⟨("_law_within", none), "_law_within", "_law_within", defArgs s_l_within, defBody s_l_within, defScope s_l_within, [], []⟩
def d_l_made_by : He.DefD := ⟨("_law_made_by", none), "_law_made_by", "_law_made_by", defArgs s_l_made_by, defBody s_l_made_by, defScope s_l_made_by, [], []⟩
def d_law : He.DefD := ⟨("law", none), "law", "law", defArgs s_law, defBody s_law, defScope s_law, [], []⟩
def fnL : List He.DefD := [d_is_number, d_within, d_is_cell, d_are_cells, d_is_word, d_is_tagged, d_is_tuple_of, d_text_of, d_patch, d_parts_of, d_longest, d_stands, d_patched, d_is_step, d_rifts, d_is_rifts, d_is_pair_below, d_l_begun, d_l_mixed, d_l_take, d_l_pick, d_l_caught, d_l_run, d_l_of_parts, d_l_within, d_l_made_by, d_law]
def faL : List He.Fa := [.glo "is_number", .glo "within", .glo "is_cell", .glo "are_cells", .glo "is_word", .glo "is_tagged", .glo "is_tuple_of", .glo "text_of", .glo "patch", .glo "parts_of", .glo "longest", .glo "stands", .glo "patched", .glo "is_step", .glo "rifts", .glo "is_rifts", .glo "is_pair_below", .glo "_law_begun", .glo "_law_mixed", .glo "_law_take", .glo "_law_pick", .glo "_law_caught", .glo "_law_run", .glo "_law_of_parts", .glo "_law_within", .glo "_law_made_by", .glo "law", .glo "LinkError", .glo "BadPatch", .glo "BadRun", .free "isinstance", .free "int", .free "bool", .free "str", .free "tuple", .free "list", .free "dict", .free "len", .free "zip", .free "range", .free "enumerate", .free "abs", .free "min", .free "max", .free "sum", .free "sorted", .free "all", .free "any", .free "divmod", .free "repr", .free "super", .exc "LinkError", .exm "LinkError" "LinkError" true, .exc "BadPatch", .exm "BadPatch" "LinkError" true, .exc "BadRun", .exm "BadRun" "LinkError" true, .str "SIGNS" "ABCDEFGHIJKLMNOPQRSTUVWXYZabcdefghijklmnopqrstuvwxyz0123456789+-"]
def tfL : List He.Defn := [("are_cells", none), ("is_tuple_of", none), ("patched", none), ("is_rifts", none), ("law", none)]
def tsL : List He.Tab := []
def msL : List (Str × Option Str) := []
def mvL : List KbHk.FnC := []
def excB (K : PySem.W.Frag) (C : Addr) : Bool := He.eqO (PySem.W.findIn K (.ref C) "__getattribute__") (some (some (.builtin "BaseException.__getattribute__"))) && (He.eqO (PySem.W.findIn K (.ref C) "__getattr__") (some none) && (PySem.W.hasDictIn K C && (He.eqO (PySem.W.findIn K (.ref C) "__class__") (some (some (.builtin "object.__class__"))) &&
  (He.eqO (PySem.W.specialIn K (.builtin "object.__class__") "__get__") (some (some (.builtin "getset_descriptor.__get__"))) && (decide (PySem.W.takesIn K (.builtin "object.__class__") = some true) && decide (PySem.W.mroIn K C (.type "object") = some true))))))
structure Ec (K : PySem.W.Frag) (mg : Str → Option Value) (x : Str) (C : Addr) : Prop where
  exc : PySem.W.excIn K C He.veBase "ValueError.__new__" = true
  g : mg x = some (.ref C)
  kp : PySem.W.keepIn K (.ref C) = true
  sub : PySem.W.subIn K (.ref C) (.type "BaseException") = some true
  ty : PySem.W.typeIn K (.ref C) = some (.type "type")
noncomputable def lm0 : Fx.Lam := ⟨0, 0, "", defArgs s_law, .Name "x" ⟨0, 0, 0, 0⟩, defScope s_law, [], []⟩
def exL (K : PySem.W.Frag) : Bool := decide (PySem.W.kitOne K (.ref (He.ga K "LinkError")) (.ref (He.ga K "LinkError")) = some true) && (decide (PySem.W.kitOne K (.ref (He.ga K "LinkError")) (.ref (He.ga K "BadPatch")) = some false) && (decide (PySem.W.kitOne K (.ref (He.ga K "LinkError")) (.ref (He.ga K "BadRun")) = some false) && (decide (PySem.W.kitOne K (.ref (He.ga K "BadPatch")) (.ref (He.ga K "LinkError")) = some true) && (decide (PySem.W.kitOne K (.ref (He.ga K "BadPatch")) (.ref (He.ga K "BadPatch")) = some true) && (decide (PySem.W.kitOne K (.ref (He.ga K "BadPatch")) (.ref (He.ga K "BadRun")) = some false) && (decide (PySem.W.kitOne K (.ref (He.ga K "BadRun")) (.ref (He.ga K "LinkError")) = some true) && (decide (PySem.W.kitOne K (.ref (He.ga K "BadRun")) (.ref (He.ga K "BadPatch")) = some false) && (decide (PySem.W.kitOne K (.ref (He.ga K "BadRun")) (.ref (He.ga K "BadRun")) = some true) && (excB K (He.ga K "LinkError") && (excB K (He.ga K "BadPatch") && (excB K (He.ga K "BadRun") && (!((He.cT K ("are_cells", none)).2 == (He.cT K ("is_tuple_of", none)).2) && (!((He.cT K ("are_cells", none)).2 == (He.cT K ("patched", none)).2) && (!((He.cT K ("are_cells", none)).2 == (He.cT K ("is_rifts", none)).2) && (!((He.cT K ("are_cells", none)).2 == (He.cT K ("law", none)).2) && (!((He.cT K ("is_tuple_of", none)).2 == (He.cT K ("patched", none)).2) && (!((He.cT K ("is_tuple_of", none)).2 == (He.cT K ("is_rifts", none)).2) && (!((He.cT K ("is_tuple_of", none)).2 == (He.cT K ("law", none)).2) && (!((He.cT K ("patched", none)).2 == (He.cT K ("is_rifts", none)).2) && (!((He.cT K ("patched", none)).2 == (He.cT K ("law", none)).2) && (!((He.cT K ("is_rifts", none)).2 == (He.cT K ("law", none)).2))))))))))))))))))))))
abbrev hk : PySem.W.Hook := KbHk.hookM 5 faL fnL tsL tfL exL msL mvL
theorem code_of_fun {K : PySem.W.Frag} {x q : Str} {st : Stmt} {p : Str × Option Str} {fd : FuncData} (F : Fun K x q st (He.fAd K p) fd) : fd.code = .ref (He.codeOf K p) := by
  obtain ⟨oc, od, kV, doc, pm, an, cdv, ct, osl, rfl, lk, hcd⟩ := F.ex
  obtain ⟨c, rfl⟩ := He.codeIn_ref hcd
  have := He.codeOf_eq lk (c := c) rfl
  rw [this] <;> rfl
theorem exc_of {K : PySem.W.Frag} {C : Addr} (h : excB K C = true) (hs : PySem.W.subIn K (.ref C) (.type "BaseException") = some true) : ExcC K C := by
  unfold excB at h
  obtain ⟨h1, h⟩ := Bool.and_eq_true_iff.mp h
  obtain ⟨h2, h⟩ := Bool.and_eq_true_iff.mp h
  obtain ⟨h3, h⟩ := Bool.and_eq_true_iff.mp h
  obtain ⟨h4, h⟩ := Bool.and_eq_true_iff.mp h
  obtain ⟨h5, h⟩ := Bool.and_eq_true_iff.mp h
  obtain ⟨h6, h7⟩ := Bool.and_eq_true_iff.mp h
  exact ⟨He.eqO_ok h1, He.eqO_ok h2, hs, h3, He.eqO_ok h4, He.eqO_ok h5, of_decide_eq_true h6, of_decide_eq_true h7⟩
theorem all_mk {w : World} {h : Heap} {mg : Str → Option Value} {fa : Addr} {K : PySem.W.Frag} (KX : K.In h) (G : h.Ns mainGlobals mg) (c : He.SaysX faL fnL tsL tfL exL w h K) (cm : msL.map (KbHk.fnC K) = mvL) (hfa : mg "law" = some (.ref fa)) :
    ∃ fd : FuncData, (∀ (s : Shared) (v : Value), BindsTo s fd ⟨[v], []⟩ [("script", v)]) ∧ ∀ base : Heap, K.In base → base.Ns mainGlobals mg → (∀ p ∈ tfL.map (He.cT K), LamX.TabB base mg p.1 p.2) →
      KbRp.RunG (PySem.Challenge.rw_onebase_k78_fewest_steps_and_most_rifts).prog w K mg base 60 fa fd ["script"] (Fx.spLaw (Fx.GG K w mg [(He.cT K ("are_cells", none)).2, (He.cT K ("is_tuple_of", none)).2] [((He.cT K ("patched", none)).2, q_patched), ((He.cT K ("is_rifts", none)).2, q_is_rifts), ((He.cT K ("law", none)).2, q_law)] (fun _ => .non) lm0) 14 b_law) := by
  have cd := c.t.d
  obtain ⟨fd_is_number, FD_is_number⟩ := cd.def_ 0 (d := d_is_number) rfl
  have F_is_number : Fun K "is_number" "is_number" s_is_number (He.ga K "is_number") fd_is_number := toFun FD_is_number
  have b_is_number : Binds K fd_is_number ["thing"] [] := F_is_number.binds (ps := ["thing"]) fun _ _ _ _ _ _ us hl => match us, hl with | [_], _ => rfl
  have g_is_number := He.glo_ok KX G (cd.fact 0 (f := .glo "is_number") rfl)
  obtain ⟨fd_within, FD_within⟩ := cd.def_ 1 (d := d_within) rfl
  have F_within : Fun K "within" "within" s_within (He.ga K "within") fd_within := toFun FD_within
  have b_within : Binds K fd_within ["thing", "low", "high"] [] := F_within.binds (ps := ["thing", "low", "high"]) fun _ _ _ _ _ _ us hl => match us, hl with | [_, _, _], _ => rfl
  have g_within := He.glo_ok KX G (cd.fact 1 (f := .glo "within") rfl)
  obtain ⟨fd_is_cell, FD_is_cell⟩ := cd.def_ 2 (d := d_is_cell) rfl
  have F_is_cell : Fun K "is_cell" "is_cell" s_is_cell (He.ga K "is_cell") fd_is_cell := toFun FD_is_cell
  have b_is_cell : Binds K fd_is_cell ["thing"] [] := F_is_cell.binds (ps := ["thing"]) fun _ _ _ _ _ _ us hl => match us, hl with | [_], _ => rfl
  have g_is_cell := He.glo_ok KX G (cd.fact 2 (f := .glo "is_cell") rfl)
  obtain ⟨fd_are_cells, FD_are_cells⟩ := cd.def_ 3 (d := d_are_cells) rfl
  have F_are_cells : Fun K "are_cells" "are_cells" s_are_cells (He.ga K "are_cells") fd_are_cells := toFun FD_are_cells
  have b_are_cells : Binds K fd_are_cells ["thing"] [] := F_are_cells.binds (ps := ["thing"]) fun _ _ _ _ _ _ us hl => match us, hl with | [_], _ => rfl
  have g_are_cells := He.glo_ok KX G (cd.fact 3 (f := .glo "are_cells") rfl)
  obtain ⟨fd_is_word, FD_is_word⟩ := cd.def_ 4 (d := d_is_word) rfl
  have F_is_word : Fun K "is_word" "is_word" s_is_word (He.ga K "is_word") fd_is_word := toFun FD_is_word
  have b_is_word : Binds K fd_is_word ["thing", "word"] [] := F_is_word.binds (ps := ["thing", "word"]) fun _ _ _ _ _ _ us hl => match us, hl with | [_, _], _ => rfl
  have g_is_word := He.glo_ok KX G (cd.fact 4 (f := .glo "is_word") rfl)
  obtain ⟨fd_is_tagged, FD_is_tagged⟩ := cd.def_ 5 (d := d_is_tagged) rfl
  have F_is_tagged : Fun K "is_tagged" "is_tagged" s_is_tagged (He.ga K "is_tagged") fd_is_tagged := toFun FD_is_tagged
  have b_is_tagged : Binds K fd_is_tagged ["thing", "word", "many"] [] := F_is_tagged.binds (ps := ["thing", "word", "many"]) fun _ _ _ _ _ _ us hl => match us, hl with | [_, _, _], _ => rfl
  have g_is_tagged := He.glo_ok KX G (cd.fact 5 (f := .glo "is_tagged") rfl)
  obtain ⟨fd_is_tuple_of, FD_is_tuple_of⟩ := cd.def_ 6 (d := d_is_tuple_of) rfl
  have F_is_tuple_of : Fun K "is_tuple_of" "is_tuple_of" s_is_tuple_of (He.ga K "is_tuple_of") fd_is_tuple_of := toFun FD_is_tuple_of
  have b_is_tuple_of : Binds K fd_is_tuple_of ["thing", "is_part"] [] := F_is_tuple_of.binds (ps := ["thing", "is_part"]) fun _ _ _ _ _ _ us hl => match us, hl with | [_, _], _ => rfl
  have g_is_tuple_of := He.glo_ok KX G (cd.fact 6 (f := .glo "is_tuple_of") rfl)
  obtain ⟨fd_text_of, FD_text_of⟩ := cd.def_ 7 (d := d_text_of) rfl
  have F_text_of : Fun K "text_of" "text_of" s_text_of (He.ga K "text_of") fd_text_of := toFun FD_text_of
  have b_text_of : Binds K fd_text_of ["run"] [] := F_text_of.binds (ps := ["run"]) fun _ _ _ _ _ _ us hl => match us, hl with | [_], _ => rfl
  have g_text_of := He.glo_ok KX G (cd.fact 7 (f := .glo "text_of") rfl)
  obtain ⟨fd_patch, FD_patch⟩ := cd.def_ 8 (d := d_patch) rfl
  have F_patch : Fun K "patch" "patch" s_patch (He.ga K "patch") fd_patch := toFun FD_patch
  have b_patch : Binds K fd_patch ["old", "new"] [] := F_patch.binds (ps := ["old", "new"]) fun _ _ _ _ _ _ us hl => match us, hl with | [_, _], _ => rfl
  have g_patch := He.glo_ok KX G (cd.fact 8 (f := .glo "patch") rfl)
  obtain ⟨fd_parts_of, FD_parts_of⟩ := cd.def_ 9 (d := d_parts_of) rfl
  have F_parts_of : Fun K "parts_of" "parts_of" s_parts_of (He.ga K "parts_of") fd_parts_of := toFun FD_parts_of
  have b_parts_of : Binds K fd_parts_of ["whole", "sought"] [] := F_parts_of.binds (ps := ["whole", "sought"]) fun _ _ _ _ _ _ us hl => match us, hl with | [_, _], _ => rfl
  have g_parts_of := He.glo_ok KX G (cd.fact 9 (f := .glo "parts_of") rfl)
  obtain ⟨fd_longest, FD_longest⟩ := cd.def_ 10 (d := d_longest) rfl
  have F_longest : Fun K "longest" "longest" s_longest (He.ga K "longest") fd_longest := toFun FD_longest
  have b_longest : Binds K fd_longest ["whole", "sought", "start"] [] := F_longest.binds (ps := ["whole", "sought", "start"]) fun _ _ _ _ _ _ us hl => match us, hl with | [_, _, _], _ => rfl
  have g_longest := He.glo_ok KX G (cd.fact 10 (f := .glo "longest") rfl)
  obtain ⟨fd_stands, FD_stands⟩ := cd.def_ 11 (d := d_stands) rfl
  have F_stands : Fun K "stands" "stands" s_stands (He.ga K "stands") fd_stands := toFun FD_stands
  have b_stands : Binds K fd_stands ["whole", "sought", "start", "many"] [] := F_stands.binds (ps := ["whole", "sought", "start", "many"]) fun _ _ _ _ _ _ us hl => match us, hl with | [_, _, _, _], _ => rfl
  have g_stands := He.glo_ok KX G (cd.fact 11 (f := .glo "stands") rfl)
  obtain ⟨fd_patched, FD_patched⟩ := cd.def_ 12 (d := d_patched) rfl
  have F_patched : Fun K "patched" "patched" s_patched (He.ga K "patched") fd_patched := toFun FD_patched
  have b_patched : Binds K fd_patched ["old", "patch"] [] := F_patched.binds (ps := ["old", "patch"]) fun _ _ _ _ _ _ us hl => match us, hl with | [_, _], _ => rfl
  have g_patched := He.glo_ok KX G (cd.fact 12 (f := .glo "patched") rfl)
  obtain ⟨fd_is_step, FD_is_step⟩ := cd.def_ 13 (d := d_is_step) rfl
  have F_is_step : Fun K "is_step" "is_step" s_is_step (He.ga K "is_step") fd_is_step := toFun FD_is_step
  have b_is_step : Binds K fd_is_step ["thing", "many"] [] := F_is_step.binds (ps := ["thing", "many"]) fun _ _ _ _ _ _ us hl => match us, hl with | [_, _], _ => rfl
  have g_is_step := He.glo_ok KX G (cd.fact 13 (f := .glo "is_step") rfl)
  obtain ⟨fd_rifts, FD_rifts⟩ := cd.def_ 14 (d := d_rifts) rfl
  have F_rifts : Fun K "rifts" "rifts" s_rifts (He.ga K "rifts") fd_rifts := toFun FD_rifts
  have b_rifts : Binds K fd_rifts ["old", "new"] [] := F_rifts.binds (ps := ["old", "new"]) fun _ _ _ _ _ _ us hl => match us, hl with | [_, _], _ => rfl
  have g_rifts := He.glo_ok KX G (cd.fact 14 (f := .glo "rifts") rfl)
  obtain ⟨fd_is_rifts, FD_is_rifts⟩ := cd.def_ 15 (d := d_is_rifts) rfl
  have F_is_rifts : Fun K "is_rifts" "is_rifts" s_is_rifts (He.ga K "is_rifts") fd_is_rifts := toFun FD_is_rifts
  have b_is_rifts : Binds K fd_is_rifts ["old", "new", "thing"] [] := F_is_rifts.binds (ps := ["old", "new", "thing"]) fun _ _ _ _ _ _ us hl => match us, hl with | [_, _, _], _ => rfl
  have g_is_rifts := He.glo_ok KX G (cd.fact 15 (f := .glo "is_rifts") rfl)
  obtain ⟨fd_is_pair_below, FD_is_pair_below⟩ := cd.def_ 16 (d := d_is_pair_below) rfl
  have F_is_pair_below : Fun K "is_pair_below" "is_pair_below" s_is_pair_below (He.ga K "is_pair_below") fd_is_pair_below := toFun FD_is_pair_below
  have b_is_pair_below : Binds K fd_is_pair_below ["thing", "many"] [] := F_is_pair_below.binds (ps := ["thing", "many"]) fun _ _ _ _ _ _ us hl => match us, hl with | [_, _], _ => rfl
  have g_is_pair_below := He.glo_ok KX G (cd.fact 16 (f := .glo "is_pair_below") rfl)
  obtain ⟨fd_l_begun, FD_l_begun⟩ := cd.def_ 17 (d := d_l_begun) rfl
  have F_l_begun : Fun K "_law_begun" "_law_begun" s_l_begun (He.ga K "_law_begun") fd_l_begun := toFun FD_l_begun
  have b_l_begun : Binds K fd_l_begun ["script"] [] := F_l_begun.binds (ps := ["script"]) fun _ _ _ _ _ _ us hl => match us, hl with | [_], _ => rfl
  have g_l_begun := He.glo_ok KX G (cd.fact 17 (f := .glo "_law_begun") rfl)
  obtain ⟨fd_l_mixed, FD_l_mixed⟩ := cd.def_ 18 (d := d_l_mixed) rfl
  have F_l_mixed : Fun K "_law_mixed" "_law_mixed" s_l_mixed (He.ga K "_law_mixed") fd_l_mixed := toFun FD_l_mixed
  have b_l_mixed : Binds K fd_l_mixed ["draw"] [] := F_l_mixed.binds (ps := ["draw"]) fun _ _ _ _ _ _ us hl => match us, hl with | [_], _ => rfl
  have g_l_mixed := He.glo_ok KX G (cd.fact 18 (f := .glo "_law_mixed") rfl)
  obtain ⟨fd_l_take, FD_l_take⟩ := cd.def_ 19 (d := d_l_take) rfl
  have F_l_take : Fun K "_law_take" "_law_take" s_l_take (He.ga K "_law_take") fd_l_take := toFun FD_l_take
  have b_l_take : Binds K fd_l_take ["draw", "many"] [] := F_l_take.binds (ps := ["draw", "many"]) fun _ _ _ _ _ _ us hl => match us, hl with | [_, _], _ => rfl
  have g_l_take := He.glo_ok KX G (cd.fact 19 (f := .glo "_law_take") rfl)
  obtain ⟨fd_l_pick, FD_l_pick⟩ := cd.def_ 20 (d := d_l_pick) rfl
  have F_l_pick : Fun K "_law_pick" "_law_pick" s_l_pick (He.ga K "_law_pick") fd_l_pick := toFun FD_l_pick
  have b_l_pick : Binds K fd_l_pick ["draw", "some"] [] := F_l_pick.binds (ps := ["draw", "some"]) fun _ _ _ _ _ _ us hl => match us, hl with | [_, _], _ => rfl
  have g_l_pick := He.glo_ok KX G (cd.fact 20 (f := .glo "_law_pick") rfl)
  obtain ⟨fd_l_caught, FD_l_caught⟩ := cd.def_ 21 (d := d_l_caught) rfl
  have F_l_caught : Fun K "_law_caught" "_law_caught" s_l_caught (He.ga K "_law_caught") fd_l_caught := toFun FD_l_caught
  have b_l_caught : Binds K fd_l_caught ["work"] [] := F_l_caught.binds (ps := ["work"]) fun _ _ _ _ _ _ us hl => match us, hl with | [_], _ => rfl
  have g_l_caught := He.glo_ok KX G (cd.fact 21 (f := .glo "_law_caught") rfl)
  obtain ⟨fd_l_run, FD_l_run⟩ := cd.def_ 22 (d := d_l_run) rfl
  have F_l_run : Fun K "_law_run" "_law_run" s_l_run (He.ga K "_law_run") fd_l_run := toFun FD_l_run
  have b_l_run : Binds K fd_l_run ["draw", "many"] [] := F_l_run.binds (ps := ["draw", "many"]) fun _ _ _ _ _ _ us hl => match us, hl with | [_, _], _ => rfl
  have g_l_run := He.glo_ok KX G (cd.fact 22 (f := .glo "_law_run") rfl)
  obtain ⟨fd_l_of_parts, FD_l_of_parts⟩ := cd.def_ 23 (d := d_l_of_parts) rfl
  have F_l_of_parts : Fun K "_law_of_parts" "_law_of_parts" s_l_of_parts (He.ga K "_law_of_parts") fd_l_of_parts := toFun FD_l_of_parts
  have b_l_of_parts : Binds K fd_l_of_parts ["draw", "old"] [] := F_l_of_parts.binds (ps := ["draw", "old"]) fun _ _ _ _ _ _ us hl => match us, hl with | [_, _], _ => rfl
  have g_l_of_parts := He.glo_ok KX G (cd.fact 23 (f := .glo "_law_of_parts") rfl)
  obtain ⟨fd_l_within, FD_l_within⟩ := cd.def_ 24 (d := d_l_within) rfl
  have F_l_within : Fun K "_law_within" "_law_within" s_l_within (He.ga K "_law_within") fd_l_within := toFun FD_l_within
  have b_l_within : Binds K fd_l_within ["old", "run"] [] := F_l_within.binds (ps := ["old", "run"]) fun _ _ _ _ _ _ us hl => match us, hl with | [_, _], _ => rfl
  have g_l_within := He.glo_ok KX G (cd.fact 24 (f := .glo "_law_within") rfl)
  obtain ⟨fd_l_made_by, FD_l_made_by⟩ := cd.def_ 25 (d := d_l_made_by) rfl
  have F_l_made_by : Fun K "_law_made_by" "_law_made_by" s_l_made_by (He.ga K "_law_made_by") fd_l_made_by := toFun FD_l_made_by
  have b_l_made_by : Binds K fd_l_made_by ["old", "steps"] [] := F_l_made_by.binds (ps := ["old", "steps"]) fun _ _ _ _ _ _ us hl => match us, hl with | [_, _], _ => rfl
  have g_l_made_by := He.glo_ok KX G (cd.fact 25 (f := .glo "_law_made_by") rfl)
  obtain ⟨fd_law, FD_law⟩ := cd.def_ 26 (d := d_law) rfl
  have F_law : Fun K "law" "law" s_law (He.ga K "law") fd_law := toFun FD_law
  have b_law : Binds K fd_law ["script"] [] := F_law.binds (ps := ["script"]) fun _ _ _ _ _ _ us hl => match us, hl with | [_], _ => rfl
  have g_law := He.glo_ok KX G (cd.fact 26 (f := .glo "law") rfl)
  have g_LinkError := He.glo_ok KX G (cd.fact 27 (f := .glo "LinkError") rfl)
  have g_BadPatch := He.glo_ok KX G (cd.fact 28 (f := .glo "BadPatch") rfl)
  have g_BadRun := He.glo_ok KX G (cd.fact 29 (f := .glo "BadRun") rfl)
  have T : Bi mg := ⟨He.free_ok KX G (cd.fact 30 (f := .free "isinstance") rfl), He.free_ok KX G (cd.fact 31 (f := .free "int") rfl), He.free_ok KX G (cd.fact 32 (f := .free "bool") rfl), He.free_ok KX G (cd.fact 33 (f := .free "str") rfl), He.free_ok KX G (cd.fact 34 (f := .free "tuple") rfl), He.free_ok KX G (cd.fact 35 (f := .free "list") rfl), He.free_ok KX G (cd.fact 36 (f := .free "dict") rfl), He.free_ok KX G (cd.fact 37 (f := .free "len") rfl), He.free_ok KX G (cd.fact 38 (f := .free "zip") rfl), He.free_ok KX G (cd.fact 39 (f := .free "range") rfl), He.free_ok KX G (cd.fact 40 (f := .free "enumerate") rfl), He.free_ok KX G (cd.fact 41 (f := .free "abs") rfl), He.free_ok KX G (cd.fact 42 (f := .free "min") rfl), He.free_ok KX G (cd.fact 43 (f := .free "max") rfl), He.free_ok KX G (cd.fact 44 (f := .free "sum") rfl), He.free_ok KX G (cd.fact 45 (f := .free "sorted") rfl), He.free_ok KX G (cd.fact 46 (f := .free "all") rfl), He.free_ok KX G (cd.fact 47 (f := .free "any") rfl), He.free_ok KX G (cd.fact 48 (f := .free "divmod") rfl), He.free_ok KX G (cd.fact 49 (f := .free "repr") rfl)⟩
  have gs := He.free_ok KX G (cd.fact 50 (f := .free "super") rfl)
  obtain ⟨e1_LinkError, e2_LinkError, e3_LinkError, e4_LinkError⟩ := He.exc_ok (cd.fact 51 (f := .exc "LinkError") rfl)
  have E_LinkError : Ec K mg "LinkError" (He.ga K "LinkError") := ⟨e1_LinkError, g_LinkError, e2_LinkError, e3_LinkError, e4_LinkError⟩
  have m_LinkError : PySem.W.exmOne K (.ref (He.ga K "LinkError")) (.ref (He.ga K "LinkError")) = some true := of_decide_eq_true (cd.fact 52 (f := .exm "LinkError" "LinkError" true) rfl)
  obtain ⟨e1_BadPatch, e2_BadPatch, e3_BadPatch, e4_BadPatch⟩ := He.exc_ok (cd.fact 53 (f := .exc "BadPatch") rfl)
  have E_BadPatch : Ec K mg "BadPatch" (He.ga K "BadPatch") := ⟨e1_BadPatch, g_BadPatch, e2_BadPatch, e3_BadPatch, e4_BadPatch⟩
  have m_BadPatch : PySem.W.exmOne K (.ref (He.ga K "BadPatch")) (.ref (He.ga K "LinkError")) = some true := of_decide_eq_true (cd.fact 54 (f := .exm "BadPatch" "LinkError" true) rfl)
  obtain ⟨e1_BadRun, e2_BadRun, e3_BadRun, e4_BadRun⟩ := He.exc_ok (cd.fact 55 (f := .exc "BadRun") rfl)
  have E_BadRun : Ec K mg "BadRun" (He.ga K "BadRun") := ⟨e1_BadRun, g_BadRun, e2_BadRun, e3_BadRun, e4_BadRun⟩
  have m_BadRun : PySem.W.exmOne K (.ref (He.ga K "BadRun")) (.ref (He.ga K "LinkError")) = some true := of_decide_eq_true (cd.fact 56 (f := .exm "BadRun" "LinkError" true) rfl)
  have cx0 := show exL K = true from c.more
  obtain ⟨x0, cx1⟩ := Bool.and_eq_true_iff.mp cx0
  obtain ⟨x1, cx2⟩ := Bool.and_eq_true_iff.mp cx1
  obtain ⟨x2, cx3⟩ := Bool.and_eq_true_iff.mp cx2
  obtain ⟨x3, cx4⟩ := Bool.and_eq_true_iff.mp cx3
  obtain ⟨x4, cx5⟩ := Bool.and_eq_true_iff.mp cx4
  obtain ⟨x5, cx6⟩ := Bool.and_eq_true_iff.mp cx5
  obtain ⟨x6, cx7⟩ := Bool.and_eq_true_iff.mp cx6
  obtain ⟨x7, cx8⟩ := Bool.and_eq_true_iff.mp cx7
  obtain ⟨x8, cx9⟩ := Bool.and_eq_true_iff.mp cx8
  obtain ⟨x9, cx10⟩ := Bool.and_eq_true_iff.mp cx9
  obtain ⟨x10, cx11⟩ := Bool.and_eq_true_iff.mp cx10
  obtain ⟨x11, cx12⟩ := Bool.and_eq_true_iff.mp cx11
  obtain ⟨x12, cx13⟩ := Bool.and_eq_true_iff.mp cx12
  obtain ⟨x13, cx14⟩ := Bool.and_eq_true_iff.mp cx13
  obtain ⟨x14, cx15⟩ := Bool.and_eq_true_iff.mp cx14
  obtain ⟨x15, cx16⟩ := Bool.and_eq_true_iff.mp cx15
  obtain ⟨x16, cx17⟩ := Bool.and_eq_true_iff.mp cx16
  obtain ⟨x17, cx18⟩ := Bool.and_eq_true_iff.mp cx17
  obtain ⟨x18, cx19⟩ := Bool.and_eq_true_iff.mp cx18
  obtain ⟨x19, cx20⟩ := Bool.and_eq_true_iff.mp cx19
  obtain ⟨x20, cx21⟩ := Bool.and_eq_true_iff.mp cx20
  have x21 := cx21
  have X_LinkError := exc_of x9 e3_LinkError
  have X_BadPatch := exc_of x10 e3_BadPatch
  have X_BadRun := exc_of x11 e3_BadRun
  have n12 : (He.cT K ("are_cells", none)).2 ≠ (He.cT K ("is_tuple_of", none)).2 := by simpa using x12
  have n13 : (He.cT K ("are_cells", none)).2 ≠ (He.cT K ("patched", none)).2 := by simpa using x13
  have n14 : (He.cT K ("are_cells", none)).2 ≠ (He.cT K ("is_rifts", none)).2 := by simpa using x14
  have n15 : (He.cT K ("are_cells", none)).2 ≠ (He.cT K ("law", none)).2 := by simpa using x15
  have n23 : (He.cT K ("is_tuple_of", none)).2 ≠ (He.cT K ("patched", none)).2 := by simpa using x16
  have n24 : (He.cT K ("is_tuple_of", none)).2 ≠ (He.cT K ("is_rifts", none)).2 := by simpa using x17
  have n25 : (He.cT K ("is_tuple_of", none)).2 ≠ (He.cT K ("law", none)).2 := by simpa using x18
  have n34 : (He.cT K ("patched", none)).2 ≠ (He.cT K ("is_rifts", none)).2 := by simpa using x19
  have n35 : (He.cT K ("patched", none)).2 ≠ (He.cT K ("law", none)).2 := by simpa using x20
  have n45 : (He.cT K ("is_rifts", none)).2 ≠ (He.cT K ("law", none)).2 := by simpa using x21
  have c_are_cells : fd_are_cells.code = .ref (He.codeOf K ("are_cells", none)) := code_of_fun (p := ("are_cells", none)) F_are_cells
  have c_is_tuple_of : fd_is_tuple_of.code = .ref (He.codeOf K ("is_tuple_of", none)) := code_of_fun (p := ("is_tuple_of", none)) F_is_tuple_of
  have c_patched : fd_patched.code = .ref (He.codeOf K ("patched", none)) := code_of_fun (p := ("patched", none)) F_patched
  have c_is_rifts : fd_is_rifts.code = .ref (He.codeOf K ("is_rifts", none)) := code_of_fun (p := ("is_rifts", none)) F_is_rifts
  have c_law : fd_law.code = .ref (He.codeOf K ("law", none)) := code_of_fun (p := ("law", none)) F_law
  have e := hfa.symm.trans g_law
  cases e
  refine ⟨fd_law, fun s v => FD_law.bindsA (ps := ["script"]) (fun _ _ _ _ _ _ us hl => match us, hl with | [_], _ => rfl) s [v] rfl, fun base KB GB TB => ?_⟩
  have tb1 := TB (He.cT K ("are_cells", none)) (List.mem_map_of_mem (by simp [tfL]))
  have tb2 := TB (He.cT K ("is_tuple_of", none)) (List.mem_map_of_mem (by simp [tfL]))
  have tb3 := TB (He.cT K ("patched", none)) (List.mem_map_of_mem (by simp [tfL]))
  have tb4 := TB (He.cT K ("is_rifts", none)) (List.mem_map_of_mem (by simp [tfL]))
  have tb5 := TB (He.cT K ("law", none)) (List.mem_map_of_mem (by simp [tfL]))
  letI : Fx.Nm := ⟨fun x => He.ga K x⟩
  have GS : Fx.GAt mg "SIGNS" k_SIGNS := ⟨by
    obtain ⟨t, e⟩ := He.str_ok KX G (cd.fact 57 (f := .str "SIGNS" "ABCDEFGHIJKLMNOPQRSTUVWXYZabcdefghijklmnopqrstuvwxyz0123456789+-") rfl)
    exact ⟨_, .str "ABCDEFGHIJKLMNOPQRSTUVWXYZabcdefghijklmnopqrstuvwxyz0123456789+-", e, ⟨t, rfl⟩, .str _⟩⟩
  have EA_LinkError : Fx.EcAt K mg "LinkError" (Fx.Nm.adr "LinkError") := ⟨E_LinkError.exc, E_LinkError.g, E_LinkError.kp, E_LinkError.sub, E_LinkError.ty⟩
  have EA_BadPatch : Fx.EcAt K mg "BadPatch" (Fx.Nm.adr "BadPatch") := ⟨E_BadPatch.exc, E_BadPatch.g, E_BadPatch.kp, E_BadPatch.sub, E_BadPatch.ty⟩
  have EA_BadRun : Fx.EcAt K mg "BadRun" (Fx.Nm.adr "BadRun") := ⟨E_BadRun.exc, E_BadRun.g, E_BadRun.kp, E_BadRun.sub, E_BadRun.ty⟩
  have EcAll : Fx.ErrC K errs subE := by
    refine ⟨fun c hc => ?_, fun c hc => ?_, fun c hc x hx => ?_⟩
    · simp only [errs, List.mem_cons, List.not_mem_nil, or_false] at hc
      rcases hc with rfl | rfl | rfl
      · exact X_LinkError
      · exact X_BadPatch
      · exact X_BadRun
    · simp only [errs, List.mem_cons, List.not_mem_nil, or_false] at hc
      rcases hc with rfl | rfl | rfl
      · exact m_LinkError
      · exact m_BadPatch
      · exact m_BadRun
    · simp only [errs, List.mem_cons, List.not_mem_nil, or_false] at hc hx
      rcases hc with rfl | rfl | rfl <;> rcases hx with rfl | rfl | rfl
      · exact (of_decide_eq_true x0).trans (congrArg some (show _ = subE "LinkError" "LinkError" by decide +kernel))
      · exact (of_decide_eq_true x1).trans (congrArg some (show _ = subE "LinkError" "BadPatch" by decide +kernel))
      · exact (of_decide_eq_true x2).trans (congrArg some (show _ = subE "LinkError" "BadRun" by decide +kernel))
      · exact (of_decide_eq_true x3).trans (congrArg some (show _ = subE "BadPatch" "LinkError" by decide +kernel))
      · exact (of_decide_eq_true x4).trans (congrArg some (show _ = subE "BadPatch" "BadPatch" by decide +kernel))
      · exact (of_decide_eq_true x5).trans (congrArg some (show _ = subE "BadPatch" "BadRun" by decide +kernel))
      · exact (of_decide_eq_true x6).trans (congrArg some (show _ = subE "BadRun" "LinkError" by decide +kernel))
      · exact (of_decide_eq_true x7).trans (congrArg some (show _ = subE "BadRun" "BadPatch" by decide +kernel))
      · exact (of_decide_eq_true x8).trans (congrArg some (show _ = subE "BadRun" "BadRun" by decide +kernel))
  have pr_is_number := ok_is_number (P := (PySem.Challenge.rw_onebase_k78_fewest_steps_and_most_rifts).prog) (w := w) (K := K) (mg := mg) (base := base) (Ts := [(He.cT K ("are_cells", none)).2, (He.cT K ("is_tuple_of", none)).2]) (Tq := [((He.cT K ("patched", none)).2, q_patched), ((He.cT K ("is_rifts", none)).2, q_is_rifts), ((He.cT K ("law", none)).2, q_law)]) (fv := fun _ => .non) T ⟨F_is_number, g_is_number⟩
  have pr_within := ok_within (P := (PySem.Challenge.rw_onebase_k78_fewest_steps_and_most_rifts).prog) (w := w) (K := K) (mg := mg) (base := base) (Ts := [(He.cT K ("are_cells", none)).2, (He.cT K ("is_tuple_of", none)).2]) (Tq := [((He.cT K ("patched", none)).2, q_patched), ((He.cT K ("is_rifts", none)).2, q_is_rifts), ((He.cT K ("law", none)).2, q_law)]) (fv := fun _ => .non) T ⟨F_within, g_within⟩ ⟨F_is_number, g_is_number⟩ pr_is_number
  have pr_is_cell := ok_is_cell (P := (PySem.Challenge.rw_onebase_k78_fewest_steps_and_most_rifts).prog) (w := w) (K := K) (mg := mg) (base := base) (Ts := [(He.cT K ("are_cells", none)).2, (He.cT K ("is_tuple_of", none)).2]) (Tq := [((He.cT K ("patched", none)).2, q_patched), ((He.cT K ("is_rifts", none)).2, q_is_rifts), ((He.cT K ("law", none)).2, q_law)]) (fv := fun _ => .non) T ⟨F_is_cell, g_is_cell⟩ ⟨F_within, g_within⟩ pr_within
  have pr_are_cells := ok_are_cells (P := (PySem.Challenge.rw_onebase_k78_fewest_steps_and_most_rifts).prog) (w := w) (K := K) (mg := mg) (base := base) (Ts := [(He.cT K ("are_cells", none)).2, (He.cT K ("is_tuple_of", none)).2]) (Tq := [((He.cT K ("patched", none)).2, q_patched), ((He.cT K ("is_rifts", none)).2, q_is_rifts), ((He.cT K ("law", none)).2, q_law)]) (fv := fun _ => .non) T ⟨F_are_cells, g_are_cells⟩ ⟨F_is_cell, g_is_cell⟩ pr_is_cell c_are_cells ⟨tb1.code, tb1.bm, tb1.gP⟩ (by simp) (by intro p hp; simp only [List.mem_cons, List.not_mem_nil, or_false] at hp; exact hp.elim (fun z => by rw [z]; exact n13.symm) (fun hp => hp.elim (fun z => by rw [z]; exact n14.symm) (fun z => by rw [z]; exact n15.symm)))
  have pr_is_word := ok_is_word (P := (PySem.Challenge.rw_onebase_k78_fewest_steps_and_most_rifts).prog) (w := w) (K := K) (mg := mg) (base := base) (Ts := [(He.cT K ("are_cells", none)).2, (He.cT K ("is_tuple_of", none)).2]) (Tq := [((He.cT K ("patched", none)).2, q_patched), ((He.cT K ("is_rifts", none)).2, q_is_rifts), ((He.cT K ("law", none)).2, q_law)]) (fv := fun _ => .non) T ⟨F_is_word, g_is_word⟩
  have pr_is_tagged := ok_is_tagged (P := (PySem.Challenge.rw_onebase_k78_fewest_steps_and_most_rifts).prog) (w := w) (K := K) (mg := mg) (base := base) (Ts := [(He.cT K ("are_cells", none)).2, (He.cT K ("is_tuple_of", none)).2]) (Tq := [((He.cT K ("patched", none)).2, q_patched), ((He.cT K ("is_rifts", none)).2, q_is_rifts), ((He.cT K ("law", none)).2, q_law)]) (fv := fun _ => .non) T ⟨F_is_tagged, g_is_tagged⟩ ⟨F_is_word, g_is_word⟩ pr_is_word
  have pr_text_of := ok_text_of (P := (PySem.Challenge.rw_onebase_k78_fewest_steps_and_most_rifts).prog) (w := w) (K := K) (mg := mg) (base := base) (Ts := [(He.cT K ("are_cells", none)).2, (He.cT K ("is_tuple_of", none)).2]) (Tq := [((He.cT K ("patched", none)).2, q_patched), ((He.cT K ("is_rifts", none)).2, q_is_rifts), ((He.cT K ("law", none)).2, q_law)]) (fv := fun _ => .non) T ⟨F_text_of, g_text_of⟩ ⟨F_are_cells, g_are_cells⟩ pr_are_cells GS EA_BadRun
  have pr_stands := ok_stands (P := (PySem.Challenge.rw_onebase_k78_fewest_steps_and_most_rifts).prog) (w := w) (K := K) (mg := mg) (base := base) (Ts := [(He.cT K ("are_cells", none)).2, (He.cT K ("is_tuple_of", none)).2]) (Tq := [((He.cT K ("patched", none)).2, q_patched), ((He.cT K ("is_rifts", none)).2, q_is_rifts), ((He.cT K ("law", none)).2, q_law)]) (fv := fun _ => .non) T ⟨F_stands, g_stands⟩
  have pr_longest := ok_longest (P := (PySem.Challenge.rw_onebase_k78_fewest_steps_and_most_rifts).prog) (w := w) (K := K) (mg := mg) (base := base) (Ts := [(He.cT K ("are_cells", none)).2, (He.cT K ("is_tuple_of", none)).2]) (Tq := [((He.cT K ("patched", none)).2, q_patched), ((He.cT K ("is_rifts", none)).2, q_is_rifts), ((He.cT K ("law", none)).2, q_law)]) (fv := fun _ => .non) T ⟨F_longest, g_longest⟩ ⟨F_stands, g_stands⟩ pr_stands
  have pr_parts_of := ok_parts_of (P := (PySem.Challenge.rw_onebase_k78_fewest_steps_and_most_rifts).prog) (w := w) (K := K) (mg := mg) (base := base) (Ts := [(He.cT K ("are_cells", none)).2, (He.cT K ("is_tuple_of", none)).2]) (Tq := [((He.cT K ("patched", none)).2, q_patched), ((He.cT K ("is_rifts", none)).2, q_is_rifts), ((He.cT K ("law", none)).2, q_law)]) (fv := fun _ => .non) T ⟨F_parts_of, g_parts_of⟩ ⟨F_longest, g_longest⟩ pr_longest
  have pr_is_step := ok_is_step (P := (PySem.Challenge.rw_onebase_k78_fewest_steps_and_most_rifts).prog) (w := w) (K := K) (mg := mg) (base := base) (Ts := [(He.cT K ("are_cells", none)).2, (He.cT K ("is_tuple_of", none)).2]) (Tq := [((He.cT K ("patched", none)).2, q_patched), ((He.cT K ("is_rifts", none)).2, q_is_rifts), ((He.cT K ("law", none)).2, q_law)]) (fv := fun _ => .non) T ⟨F_is_step, g_is_step⟩ ⟨F_within, g_within⟩ pr_within ⟨F_is_tagged, g_is_tagged⟩ pr_is_tagged ⟨F_is_cell, g_is_cell⟩ pr_is_cell
  have pr_patched := ok_patched (P := (PySem.Challenge.rw_onebase_k78_fewest_steps_and_most_rifts).prog) (w := w) (K := K) (mg := mg) (base := base) (Ts := [(He.cT K ("are_cells", none)).2, (He.cT K ("is_tuple_of", none)).2]) (Tq := [((He.cT K ("patched", none)).2, q_patched), ((He.cT K ("is_rifts", none)).2, q_is_rifts), ((He.cT K ("law", none)).2, q_law)]) (fv := fun _ => .non) T ⟨F_patched, g_patched⟩ ⟨F_are_cells, g_are_cells⟩ pr_are_cells ⟨F_is_step, g_is_step⟩ pr_is_step EA_BadPatch EA_BadRun c_patched tb3 (by simp) (by intro p hp e; simp only [List.mem_cons, List.not_mem_nil, or_false] at hp; exact hp.elim (fun z => (by rw [z])) (fun hp => hp.elim (fun z => absurd (by rw [z] at e; exact e) (n34.symm)) (fun z => absurd (by rw [z] at e; exact e) (n35.symm)))) (by simp only [List.mem_cons, List.not_mem_nil, or_false, not_or]; exact ⟨n13.symm, n23.symm⟩) ⟨F_is_tuple_of, g_is_tuple_of⟩ c_is_tuple_of ⟨tb2.code, tb2.bm, tb2.gP⟩ (by simp) (by intro p hp; simp only [List.mem_cons, List.not_mem_nil, or_false] at hp; exact hp.elim (fun z => by rw [z]; exact n23.symm) (fun hp => hp.elim (fun z => by rw [z]; exact n24.symm) (fun z => by rw [z]; exact n25.symm)))
  have pr_patch := ok_patch (P := (PySem.Challenge.rw_onebase_k78_fewest_steps_and_most_rifts).prog) (w := w) (K := K) (mg := mg) (base := base) (Ts := [(He.cT K ("are_cells", none)).2, (He.cT K ("is_tuple_of", none)).2]) (Tq := [((He.cT K ("patched", none)).2, q_patched), ((He.cT K ("is_rifts", none)).2, q_is_rifts), ((He.cT K ("law", none)).2, q_law)]) (fv := fun _ => .non) T ⟨F_patch, g_patch⟩ ⟨F_parts_of, g_parts_of⟩ pr_parts_of ⟨F_text_of, g_text_of⟩ pr_text_of
  have pr_rifts := ok_rifts (P := (PySem.Challenge.rw_onebase_k78_fewest_steps_and_most_rifts).prog) (w := w) (K := K) (mg := mg) (base := base) (Ts := [(He.cT K ("are_cells", none)).2, (He.cT K ("is_tuple_of", none)).2]) (Tq := [((He.cT K ("patched", none)).2, q_patched), ((He.cT K ("is_rifts", none)).2, q_is_rifts), ((He.cT K ("law", none)).2, q_law)]) (fv := fun _ => .non) T ⟨F_rifts, g_rifts⟩ ⟨F_parts_of, g_parts_of⟩ pr_parts_of ⟨F_text_of, g_text_of⟩ pr_text_of
  have pr_is_pair_below := ok_is_pair_below (P := (PySem.Challenge.rw_onebase_k78_fewest_steps_and_most_rifts).prog) (w := w) (K := K) (mg := mg) (base := base) (Ts := [(He.cT K ("are_cells", none)).2, (He.cT K ("is_tuple_of", none)).2]) (Tq := [((He.cT K ("patched", none)).2, q_patched), ((He.cT K ("is_rifts", none)).2, q_is_rifts), ((He.cT K ("law", none)).2, q_law)]) (fv := fun _ => .non) T ⟨F_is_pair_below, g_is_pair_below⟩ ⟨F_within, g_within⟩ pr_within ⟨F_is_number, g_is_number⟩ pr_is_number
  have pr_is_rifts := ok_is_rifts (P := (PySem.Challenge.rw_onebase_k78_fewest_steps_and_most_rifts).prog) (w := w) (K := K) (mg := mg) (base := base) (Ts := [(He.cT K ("are_cells", none)).2, (He.cT K ("is_tuple_of", none)).2]) (Tq := [((He.cT K ("patched", none)).2, q_patched), ((He.cT K ("is_rifts", none)).2, q_is_rifts), ((He.cT K ("law", none)).2, q_law)]) (fv := fun _ => .non) T ⟨F_is_rifts, g_is_rifts⟩ ⟨F_text_of, g_text_of⟩ pr_text_of ⟨F_is_pair_below, g_is_pair_below⟩ pr_is_pair_below c_is_rifts tb4 (by simp) (by intro p hp e; simp only [List.mem_cons, List.not_mem_nil, or_false] at hp; exact hp.elim (fun z => absurd (by rw [z] at e; exact e) (n34)) (fun hp => hp.elim (fun z => (by rw [z])) (fun z => absurd (by rw [z] at e; exact e) (n45.symm)))) (by simp only [List.mem_cons, List.not_mem_nil, or_false, not_or]; exact ⟨n14.symm, n24.symm⟩) ⟨F_is_tuple_of, g_is_tuple_of⟩ c_is_tuple_of ⟨tb2.code, tb2.bm, tb2.gP⟩ (by simp) (by intro p hp; simp only [List.mem_cons, List.not_mem_nil, or_false] at hp; exact hp.elim (fun z => by rw [z]; exact n23.symm) (fun hp => hp.elim (fun z => by rw [z]; exact n24.symm) (fun z => by rw [z]; exact n25.symm)))
  have pr_l_mixed := ok_l_mixed (P := (PySem.Challenge.rw_onebase_k78_fewest_steps_and_most_rifts).prog) (w := w) (K := K) (mg := mg) (base := base) (Ts := [(He.cT K ("are_cells", none)).2, (He.cT K ("is_tuple_of", none)).2]) (Tq := [((He.cT K ("patched", none)).2, q_patched), ((He.cT K ("is_rifts", none)).2, q_is_rifts), ((He.cT K ("law", none)).2, q_law)]) (fv := fun _ => .non) T ⟨F_l_mixed, g_l_mixed⟩
  have pr_l_take := ok_l_take (P := (PySem.Challenge.rw_onebase_k78_fewest_steps_and_most_rifts).prog) (w := w) (K := K) (mg := mg) (base := base) (Ts := [(He.cT K ("are_cells", none)).2, (He.cT K ("is_tuple_of", none)).2]) (Tq := [((He.cT K ("patched", none)).2, q_patched), ((He.cT K ("is_rifts", none)).2, q_is_rifts), ((He.cT K ("law", none)).2, q_law)]) (fv := fun _ => .non) T ⟨F_l_take, g_l_take⟩ ⟨F_l_mixed, g_l_mixed⟩ pr_l_mixed
  have pr_l_pick := ok_l_pick (P := (PySem.Challenge.rw_onebase_k78_fewest_steps_and_most_rifts).prog) (w := w) (K := K) (mg := mg) (base := base) (Ts := [(He.cT K ("are_cells", none)).2, (He.cT K ("is_tuple_of", none)).2]) (Tq := [((He.cT K ("patched", none)).2, q_patched), ((He.cT K ("is_rifts", none)).2, q_is_rifts), ((He.cT K ("law", none)).2, q_law)]) (fv := fun _ => .non) T ⟨F_l_pick, g_l_pick⟩ ⟨F_l_take, g_l_take⟩ pr_l_take
  have pr_l_run := ok_l_run (P := (PySem.Challenge.rw_onebase_k78_fewest_steps_and_most_rifts).prog) (w := w) (K := K) (mg := mg) (base := base) (Ts := [(He.cT K ("are_cells", none)).2, (He.cT K ("is_tuple_of", none)).2]) (Tq := [((He.cT K ("patched", none)).2, q_patched), ((He.cT K ("is_rifts", none)).2, q_is_rifts), ((He.cT K ("law", none)).2, q_law)]) (fv := fun _ => .non) T ⟨F_l_run, g_l_run⟩ ⟨F_l_take, g_l_take⟩ pr_l_take ⟨F_l_pick, g_l_pick⟩ pr_l_pick
  have pr_l_of_parts := ok_l_of_parts (P := (PySem.Challenge.rw_onebase_k78_fewest_steps_and_most_rifts).prog) (w := w) (K := K) (mg := mg) (base := base) (Ts := [(He.cT K ("are_cells", none)).2, (He.cT K ("is_tuple_of", none)).2]) (Tq := [((He.cT K ("patched", none)).2, q_patched), ((He.cT K ("is_rifts", none)).2, q_is_rifts), ((He.cT K ("law", none)).2, q_law)]) (fv := fun _ => .non) T ⟨F_l_of_parts, g_l_of_parts⟩ ⟨F_l_take, g_l_take⟩ pr_l_take
  have pr_l_within := ok_l_within (P := (PySem.Challenge.rw_onebase_k78_fewest_steps_and_most_rifts).prog) (w := w) (K := K) (mg := mg) (base := base) (Ts := [(He.cT K ("are_cells", none)).2, (He.cT K ("is_tuple_of", none)).2]) (Tq := [((He.cT K ("patched", none)).2, q_patched), ((He.cT K ("is_rifts", none)).2, q_is_rifts), ((He.cT K ("law", none)).2, q_law)]) (fv := fun _ => .non) T ⟨F_l_within, g_l_within⟩
  have pr_l_made_by := ok_l_made_by (P := (PySem.Challenge.rw_onebase_k78_fewest_steps_and_most_rifts).prog) (w := w) (K := K) (mg := mg) (base := base) (Ts := [(He.cT K ("are_cells", none)).2, (He.cT K ("is_tuple_of", none)).2]) (Tq := [((He.cT K ("patched", none)).2, q_patched), ((He.cT K ("is_rifts", none)).2, q_is_rifts), ((He.cT K ("law", none)).2, q_law)]) (fv := fun _ => .non) T ⟨F_l_made_by, g_l_made_by⟩
  have pr_l_begun := ok_l_begun (P := (PySem.Challenge.rw_onebase_k78_fewest_steps_and_most_rifts).prog) (w := w) (base := base) (k := 39) T ⟨F_l_begun, g_l_begun⟩
  exact ok_law (P := (PySem.Challenge.rw_onebase_k78_fewest_steps_and_most_rifts).prog) (w := w) (K := K) (mg := mg) (base := base) (Ts := [(He.cT K ("are_cells", none)).2, (He.cT K ("is_tuple_of", none)).2]) (Tq := [((He.cT K ("patched", none)).2, q_patched), ((He.cT K ("is_rifts", none)).2, q_is_rifts), ((He.cT K ("law", none)).2, q_law)]) (fv := fun _ => .non) (lm := lm0) T ⟨F_law, g_law⟩ ⟨F_l_begun, g_l_begun⟩ pr_l_begun ⟨F_is_rifts, g_is_rifts⟩ pr_is_rifts ⟨F_patched, g_patched⟩ pr_patched ⟨F_rifts, g_rifts⟩ pr_rifts ⟨F_patch, g_patch⟩ pr_patch ⟨F_l_pick, g_l_pick⟩ pr_l_pick ⟨F_l_within, g_l_within⟩ pr_l_within ⟨F_l_made_by, g_l_made_by⟩ pr_l_made_by ⟨F_l_take, g_l_take⟩ pr_l_take ⟨F_l_run, g_l_run⟩ pr_l_run ⟨F_l_of_parts, g_l_of_parts⟩ pr_l_of_parts EA_BadPatch EA_BadRun EcAll ⟨F_l_caught, g_l_caught⟩ g_LinkError c_law tb5 (by simp) (by intro p hp e; simp only [List.mem_cons, List.not_mem_nil, or_false] at hp; exact hp.elim (fun z => absurd (by rw [z] at e; exact e) (n35)) (fun hp => hp.elim (fun z => absurd (by rw [z] at e; exact e) (n45)) (fun z => (by rw [z])))) (by simp only [List.mem_cons, List.not_mem_nil, or_false, not_or]; exact ⟨n15.symm, n25.symm⟩)
theorem tabs_ne {w : World} {h : Heap} {K : PySem.W.Frag} (c : He.SaysX faL fnL tsL tfL exL w h K) : (He.cT K ("are_cells", none)).2 ≠ (He.cT K ("is_tuple_of", none)).2 ∧ (He.cT K ("are_cells", none)).2 ≠ (He.cT K ("patched", none)).2 ∧ (He.cT K ("are_cells", none)).2 ≠ (He.cT K ("is_rifts", none)).2 ∧ (He.cT K ("are_cells", none)).2 ≠ (He.cT K ("law", none)).2 ∧ (He.cT K ("is_tuple_of", none)).2 ≠ (He.cT K ("patched", none)).2 ∧ (He.cT K ("is_tuple_of", none)).2 ≠ (He.cT K ("is_rifts", none)).2 ∧ (He.cT K ("is_tuple_of", none)).2 ≠ (He.cT K ("law", none)).2 ∧ (He.cT K ("patched", none)).2 ≠ (He.cT K ("is_rifts", none)).2 ∧ (He.cT K ("patched", none)).2 ≠ (He.cT K ("law", none)).2 ∧ (He.cT K ("is_rifts", none)).2 ≠ (He.cT K ("law", none)).2 := by
  have cx0 := show exL K = true from c.more
  obtain ⟨x0, cx1⟩ := Bool.and_eq_true_iff.mp cx0
  obtain ⟨x1, cx2⟩ := Bool.and_eq_true_iff.mp cx1
  obtain ⟨x2, cx3⟩ := Bool.and_eq_true_iff.mp cx2
  obtain ⟨x3, cx4⟩ := Bool.and_eq_true_iff.mp cx3
  obtain ⟨x4, cx5⟩ := Bool.and_eq_true_iff.mp cx4
  obtain ⟨x5, cx6⟩ := Bool.and_eq_true_iff.mp cx5
  obtain ⟨x6, cx7⟩ := Bool.and_eq_true_iff.mp cx6
  obtain ⟨x7, cx8⟩ := Bool.and_eq_true_iff.mp cx7
  obtain ⟨x8, cx9⟩ := Bool.and_eq_true_iff.mp cx8
  obtain ⟨x9, cx10⟩ := Bool.and_eq_true_iff.mp cx9
  obtain ⟨x10, cx11⟩ := Bool.and_eq_true_iff.mp cx10
  obtain ⟨x11, cx12⟩ := Bool.and_eq_true_iff.mp cx11
  obtain ⟨x12, cx13⟩ := Bool.and_eq_true_iff.mp cx12
  obtain ⟨x13, cx14⟩ := Bool.and_eq_true_iff.mp cx13
  obtain ⟨x14, cx15⟩ := Bool.and_eq_true_iff.mp cx14
  obtain ⟨x15, cx16⟩ := Bool.and_eq_true_iff.mp cx15
  obtain ⟨x16, cx17⟩ := Bool.and_eq_true_iff.mp cx16
  obtain ⟨x17, cx18⟩ := Bool.and_eq_true_iff.mp cx17
  obtain ⟨x18, cx19⟩ := Bool.and_eq_true_iff.mp cx18
  obtain ⟨x19, cx20⟩ := Bool.and_eq_true_iff.mp cx19
  obtain ⟨x20, cx21⟩ := Bool.and_eq_true_iff.mp cx20
  have x21 := cx21
  exact ⟨by simpa using x12, by simpa using x13, by simpa using x14, by simpa using x15, by simpa using x16, by simpa using x17, by simpa using x18, by simpa using x19, by simpa using x20, by simpa using x21⟩
theorem tab0G {H : Hp} {P : Addr} (h : H P = some (.tbl #[])) : GxR.TabG H P := ⟨#[], h, trivial⟩
theorem tab0S {H : Hp} {P : Addr} {q : Str} (h : H P = some (.tbl #[])) : LamX.TabS H P q := ⟨#[], h, trivial, fun _ _ z => by cases z⟩
end K78
set_option Elab.async false
set_option linter.all false
set_option maxRecDepth 100000
open PySem PySem.W PySem.Calls PyProof.Rows
set_option maxHeartbeats 0 in
theorem PySem.Challenge.cw_onebase_k78_fewest_steps_and_most_rifts_holds : PySem.Challenge.rw_onebase_k78_fewest_steps_and_most_rifts.Holds := by
  w_on; o_law; o_head (K78.hk); (case hw => w_witness2)
  k_fill
  refine KbRp.walkG (l := PySem.Challenge.rw_onebase_k78_fewest_steps_and_most_rifts) (n := 63) (k := 60) (x := "script") rfl (by decide) rfl ⟨rfl, by decide, by decide⟩ ?F
  case F =>
    intro w mg fa h Y G hmg
    obtain ⟨K, KX, c, cm⟩ := Y
    obtain ⟨fd, hb, hF⟩ := K78.all_mk (w := w) KX G c cm hmg
    refine ⟨K, KX, fd, K78.tfL.map (He.cT K), _, ⟨fun p hp => ?_, fun p hp => ?_, fun p hp => ?_⟩, hb, fun H a ns hl _ hT hS => ?_, hF⟩
    · obtain ⟨q, hq, rfl⟩ := List.mem_map.mp hp
      exact c.empty q hq
    · obtain ⟨q, hq, rfl⟩ := List.mem_map.mp hp
      exact c.out q hq
    · obtain ⟨q, hq, rfl⟩ := List.mem_map.mp hp
      exact PySem.W.codeHd_of_K KX (c.hd q hq)
    · obtain ⟨n12, n13, n14, n15, n23, n24, n25, n34, n35, n45⟩ := K78.tabs_ne c
      exact ⟨a, ns, rfl, hS, hl, ⟨fun P m => by
        simp only [Fx.GG, List.mem_cons, List.not_mem_nil, or_false] at m
        rcases m with rfl | rfl
        all_goals exact K78.tab0G (hT _ (List.mem_map_of_mem (by simp [K78.tfL]))), fun p m => by
        simp only [Fx.GG, List.mem_cons, List.not_mem_nil, or_false] at m
        rcases m with rfl | rfl | rfl
        all_goals exact K78.tab0S (hT _ (List.mem_map_of_mem (by simp [K78.tfL])))⟩, fun D h1 _ _ => (haveI : Fx.Nm := ⟨fun _ => 0⟩; K78.law_holds ns hl D h1), fun _ => rfl⟩
