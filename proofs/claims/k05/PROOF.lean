import PyProof.Rows.All
import Wide.All
import OpenK.AllK
import Wide.FinOn
import HandS.ForMost
import HandS.Conv
import HandS.TupAny
import HandS.Zip
import HandS.Wide
import HandS.WideBits
import HandS.More
import HandS.TupMul
import HandS.RaiseMore
import KE.GoesEnum
import HandS.Style
import PySem.Challenge.RW_homewords_k05_whole_deeds_done_and_undon
set_option Elab.async false
set_option linter.all false
set_option maxRecDepth 100000
set_option maxHeartbeats 400000
/-! Own layer, part A: defs that are called where nothing is being shown (guards known to be none), so that repr of data may be asked in them. -/
namespace HW
open PySem PySem.Spec PyProof.Rows L2

/-- a def's promise, for callers around which nothing is being shown -/
structure FnG (P : Program) (w : World) (K : PySem.W.Frag) (mg : Str → Option Value) (base : Heap) (CX : CXT) (k : Nat) (f : Addr) (fd : FuncData) (ps : List Str) (sp : Sp) : Prop where
  len : ∀ vs H Q E, sp vs H Q E → vs.length = ps.length
  run : ∀ (A : Around) (outer : List Env) (s : Shared) (H : Hp) (args : Args) (us : List Value) (vs : List V) (Q : VK) (E : XK), Room k A → A.guards = some [] → Env0 P w K mg base A outer s H →
    BindsTo s fd args (ps.zip us) → Vals vs us → sp vs H Q E → codeAny (model P w) A (.call (.ref f) args) (CR CX outer P w H s Q E) s

section
variable {P : Program} {w : World} {K : PySem.W.Frag} {mg : Str → Option Value} {base : Heap} {CX : CXT} {k j : Nat} {f : Addr} {fd : FuncData} {ps : List Str} {sp sp' : Sp}
theorem FnG.of (F : FnOk P w K mg base CX k f fd ps sp) : FnG P w K mg base CX k f fd ps sp :=
  ⟨F.len, fun A o s H ar us vs Q E r _ e b v h => F.run A o s H ar us vs Q E r e b v h⟩
theorem FnG.mono (F : FnG P w K mg base CX j f fd ps sp) (h : j ≤ k) : FnG P w K mg base CX k f fd ps sp :=
  ⟨F.len, fun A o s H ar us vs Q E r g e b v q => F.run A o s H ar us vs Q E (r.mono h) g e b v q⟩
theorem FnG.imp (F : FnG P w K mg base CX k f fd ps sp) (h : ∀ vs H Q E, sp' vs H Q E → sp vs H Q E) : FnG P w K mg base CX k f fd ps sp' :=
  ⟨fun vs H Q E q => F.len vs H Q E (h _ _ _ _ q), fun A o s H ar us vs Q E r g e b v q => F.run A o s H ar us vs Q E r g e b v (h _ _ _ _ q)⟩

/-- a def of the text, by its body -/
theorem fnG_of {name qual : Str} {params : Arguments} {body : List Stmt} {scope : Scope} {dV kV doc pm cdv ct oc : Value} {an od : Option Addr} {osl : Array (Option Value)} {N : List Str}
    (lk : K.lookup f = some ⟨oc, od, .func (PySem.W.fnOf name qual params body scope dV kV doc pm an cdv ct), osl⟩) (cd : PySem.W.codeIn K cdv qual = true) (S : FnScope N ps scope)
    (len : ∀ vs H Q E, sp vs H Q E → vs.length = ps.length)
    (go : ∀ (A : Around) (outer : List Env) (s : Shared) (H : Hp) (vs : List V) (Q : VK) (E : XK), Room k (A.deeper (envOfC qual scope s.heap.objs.size f cdv)) → A.guards = some [] → sp vs H Q E →
      ∃ t, PSs (cxOf CX P w K mg base N qual scope f cdv A outer s H E) body t ∧ t { nx := fun _ H1 => Q .non H1, rt := Q } (start N vs) H) :
    FnG P w K mg base CX (k + 1) f (PySem.W.fnOf name qual params body scope dV kV doc pm an cdv ct) ps sp := by
  constructor
  · exact len
  intro A outer s H args us vs Q E room gd en bnd rel asked
  have ln := len vs H Q E asked
  have inK : K.In s.heap := en.mod.kin.keeps (fun b o e => And.left (en.bs b o e))
  have noL : s.heap.NoLimit := en.mod.nolimit.keeps (fun b o e => And.left (en.bs b o e))
  refine codeAny_call_function room.depth (inK f _ lk) rfl S.co S.gen rfl (PySem.W.codeRec_of inK cd) (bnd _ _ _ _ ?_)
  have kinds : ∀ y ∈ ps.zip us, scope.names.lookup y.1 = some .local ∨ (scope.names.lookup y.1 = some .cell ∧ Option.isSome ((cellsFrom (s.heap.objs.size + 1) scope.names []).lookup y.1) = true) := by
    rintro ⟨nm, u⟩ hm
    cases S.par nm (List.of_mem_zip hm).1 with
    | inl q => exact Or.inl q
    | inr q => exact Or.inr (And.intro q (PySem.W.cellsFrom_some _ _ _ (Or.inl q)))
  refine wpAny_newFunctionEnv_cells S.kind kinds (fun env same s1 x => ?_)
  subst same
  refine And.intro (noL.keeps x.toInCall.keep) (codeAny_func ?_)
  obtain ⟨t, runs, reads⟩ := go A outer s H vs Q E (Room.deeper room _) gd asked
  have I := inv_start (CX := CX) (E := E) S room.hd en ln rel x
  refine wpAny_mono (runs.run [] s1 (start N vs) H _ I reads) ?_ (fun e s' h => h)
  intro fl s' got
  have close : ∀ (σ1 : L2.St) (H1 : Hp) (v : V) (u : Value), Inv (cxOf CX P w K mg base N qual scope f cdv A outer s H E) [] σ1 H1 s' → RelV v u → Q v H1 → CE outer P w H s Q u s' :=
    fun σ1 H1 v u J rv q => Exists.intro v (Exists.intro H1 (And.intro J.os (And.intro J.bare (And.intro J.base (And.intro J.hok (And.intro rv q))))))
  match fl, got with
  | .ret u, ⟨v, σ1, H1, J, rv, q⟩ => exact close σ1 H1 v u J rv q
  | .next, ⟨σ1, H1, J, q⟩ => exact close σ1 H1 V.non Value.none J rfl q
  | .brk, ⟨_, _, _, q⟩ => exact q.elim
  | .cont, ⟨_, _, _, q⟩ => exact q.elim

theorem fun_okG {x qual : Str} {st : Stmt} {N : List Str} (F : Fun K x qual st f fd) (S : FnScope N ps (defScope st)) (len : ∀ vs H Q E, sp vs H Q E → vs.length = ps.length)
    (go : ∀ (cdv : Value) (A : Around) (outer : List Env) (s : Shared) (H : Hp) (vs : List V) (Q : VK) (E : XK), Room k (A.deeper (envOfC qual (defScope st) s.heap.objs.size f cdv)) → A.guards = some [] → sp vs H Q E →
      ∃ t, PSs (cxOf CX P w K mg base N qual (defScope st) f cdv A outer s H E) (defBody st) t ∧ t { nx := fun _ H1 => Q .non H1, rt := Q } (start N vs) H) : FnG P w K mg base CX (k + 1) f fd ps sp := by
  obtain ⟨oc, od, kV, doc, pm, an, cdv, ct, osl, same, lk, cd⟩ := F.ex
  subst same
  exact fnG_of lk cd S len (fun A outer s H vs Q E room gd asked => go cdv A outer s H vs Q E room gd asked)
end

section
variable {X : Cx} {CX : CXT} {k : Nat} {f : Addr} {fd : FuncData} {ps : List Str} {sp : Sp} {dvs : List V} {ds : List Value} {E : XK} {x : Str} {p pos : Pos} {e : Expr} {es : List Expr} {t tk : TA}
theorem CR.fin {pins : List (Addr × Obj)} {σ : L2.St} {H : Hp} {s s' : Shared} {Q : VK} {r : Result} (I : Inv X pins σ H s) (hx : Passes CX X E) (h : CR CX X.stack X.prog X.w H s Q E r s') :
    (match (r : Result) with
      | .ok (.ret u) => EP X pins σ Q u s'
      | .ok _ => False
      | .error e => X.xe e s') := by
  match r, h with
  | .error e, h => exact hx pins σ H s e s' I h
  | .ok (.ret u), h => exact I.after h
theorem fnG_run {pins : List (Addr × Obj)} {σ : L2.St} {H : Hp} {s : Shared} {Q : VK} {us : List Value} {vs : List V} (F : FnG X.prog X.w X.K X.mg X.base CX k f fd ps sp) (hr : Room k X.A) (gd : X.A.guards = some []) (hb : Binds X.K fd ps ds) (hd : Vals dvs ds) (hx : Passes CX X E)
    (I : Inv X pins σ H s) (r : Vals vs us) (h : sp (vs ++ dvs) H Q E) : wpAny (model X.prog X.w) X.A (call (.ref f) us) (EP X pins σ Q) X.xe s := by
  have both : Vals (vs ++ dvs) (us ++ ds) := Vals.append r hd
  have ln : (us ++ ds).length = ps.length := both.length.symm.trans (F.len _ _ _ _ h)
  have ran := F.run X.A X.stack s H { pos := us, kw := [] } (us ++ ds) (vs ++ dvs) Q E hr gd I.env0 (hb s us I.kIn ln) both h
  refine wpAny_call (codeAny_mono ran fun res s' q => ?_)
  match res, q with
  | .error e, q => exact hx pins σ H s e s' I q
  | .ok (.ret u), q => exact I.after q
theorem pe_callG (F : FnG X.prog X.w X.K X.mg X.base CX k f fd ps sp) (hr : Room k X.A) (gd : X.A.guards = some []) (hg : Gl X x) (hm : X.mg x = some (.ref f)) (hk : PySem.W.keepIn X.K (.ref f) = true) (hb : Binds X.K fd ps ds) (hd : Vals dvs ds) (hx : Passes CX X E)
    (ha : PA X (e :: es) t) (hdb : (x == ("__debug__" : Str)) = false := by decide) (he : starEach (e :: es) X.env = (false, eval e X.env) :: starEach es X.env := by rfl) (hpl : (backTo pos (starEach es X.env)).any (·.1) = false := by rfl) :
    PE X (.Call (.Name x p) (e :: es) [] pos) (tCall sp dvs E t) := by
  constructor
  intro pins s σ H Q I h
  refine wpAny_Call_Name_kw (ld_glob I hg hm ?_ hdb)
  have args := thn (ha.run pos pins s σ H _ I h) (Q' := fun us s1 => X.K.In s1.heap ∧ wpAny (model X.prog X.w) X.A (call (.ref f) us) (EP X pins σ Q) X.xe s1) fun us s1 q => by
    obtain ⟨vs, H1, I1, r, q1⟩ := q
    exact And.intro I1.kIn (fnG_run F hr gd hb hd hx I1 r q1)
  exact PySem.W.callWith_K (h₀ := X.base) I.ok.mod.kin hk args he hpl
theorem pe_callG0 (F : FnG X.prog X.w X.K X.mg X.base CX k f fd ps sp) (hr : Room k X.A) (gd : X.A.guards = some []) (hg : Gl X x) (hm : X.mg x = some (.ref f)) (hk : PySem.W.keepIn X.K (.ref f) = true) (hb : Binds X.K fd ps ds) (hd : Vals dvs ds) (hx : Passes CX X E)
    (hdb : (x == ("__debug__" : Str)) = false := by decide) : PE X (.Call (.Name x p) [] [] pos) (tCall sp dvs E tNil) := by
  constructor
  intro pins s σ H Q I h
  refine wpAny_Call_Name_kw (ld_glob I hg hm ?_ hdb)
  exact PySem.W.callWith_K0 I.kIn hk (fnG_run (us := []) F hr gd hb hd hx I .nil h)
/-- f(k = v, ..): keywords alone -/
theorem fnG_runK {pins : List (Addr × Obj)} {σ : L2.St} {H : Hp} {s : Shared} {Q : VK} {ks : List Str} {us ws : List Value} {vs zs : List V} {g : List Value → List Value → List Value} {gV : List V → List V → List V}
    (F : FnG X.prog X.w X.K X.mg X.base CX k f fd ps sp) (hr : Room k X.A) (gd : X.A.guards = some []) (hb : KBinds X.K fd ps ks g gV) (hx : Passes CX X E) (I : Inv X pins σ H s) (r : Vals vs us) (rz : Vals zs ws) (h : sp (gV vs zs) H Q E) :
    wpAny (model X.prog X.w) X.A (call (.ref f) us (ks.zip ws)) (EP X pins σ Q) X.xe s := by
  have both := hb.rel r rz
  have ln : (g us ws).length = ps.length := both.length.symm.trans (F.len _ _ _ _ h)
  have ran := F.run X.A X.stack s H { pos := us, kw := ks.zip ws } (g us ws) (gV vs zs) Q E hr gd I.env0 (hb.to s us ws I.kIn ln) both h
  refine wpAny_call (codeAny_mono ran fun res s' q => ?_)
  match res, q with
  | .error e, q => exact hx pins σ H s e s' I q
  | .ok (.ret u), q => exact I.after q
theorem pe_callGK0 {ks : List Str} {kws : List Keyword} {g : List Value → List Value → List Value} {gV : List V → List V → List V} (F : FnG X.prog X.w X.K X.mg X.base CX k f fd ps sp) (hr : Room k X.A) (gd : X.A.guards = some []) (hg : Gl X x) (hm : X.mg x = some (.ref f))
    (hk : PySem.W.keepIn X.K (.ref f) = true) (hb : KBinds X.K fd ps ks g gV) (hx : Passes CX X E) (hkw : PK X kws tk) (hall : (backToKw pos (keywordEach kws X.env)).all (·.1.isSome) = true := by rfl) (hks : (backToKw pos (keywordEach kws X.env)).filterMap (·.1) = ks := by rfl)
    (hdb : (x == ("__debug__" : Str)) = false := by decide) (hpl : ((backTo pos (starEach [] X.env)).any (·.1) || (backToKw pos (keywordEach kws X.env)).any (·.1.isNone)) = false := by rfl) : PE X (.Call (.Name x p) [] kws pos) (tCallK sp gV E tNil tk) := by
  constructor
  intro pins s σ H Q I h
  refine wpAny_Call_Name_kw (ld_glob I hg hm ?_ hdb)
  refine PySem.W.callWith_KW0 (h₀ := X.base) I.ok.mod.kin hk hall ?_ hpl
  refine thn (hkw.run pos pins s σ H _ I h) fun ws s1 q => ?_
  obtain ⟨zs, H1, I1, rz, q1⟩ := q
  rw [hks]
  exact And.intro I1.kIn (fnG_runK (us := []) F hr gd hb hx I1 .nil rz q1)
theorem pe_callGK {ks : List Str} {kws : List Keyword} {g : List Value → List Value → List Value} {gV : List V → List V → List V} (F : FnG X.prog X.w X.K X.mg X.base CX k f fd ps sp) (hr : Room k X.A) (gd : X.A.guards = some []) (hg : Gl X x) (hm : X.mg x = some (.ref f))
    (hk : PySem.W.keepIn X.K (.ref f) = true) (hb : KBinds X.K fd ps ks g gV) (hx : Passes CX X E) (ha : PA X (e :: es) t) (hkw : PK X kws tk) (hall : (backToKw pos (keywordEach kws X.env)).all (·.1.isSome) = true := by rfl) (hks : (backToKw pos (keywordEach kws X.env)).filterMap (·.1) = ks := by rfl)
    (hdb : (x == ("__debug__" : Str)) = false := by decide) (he : starEach (e :: es) X.env = (false, eval e X.env) :: starEach es X.env := by rfl)
    (hpl : ((backTo pos (starEach (e :: es) X.env)).any (·.1) || (backToKw pos (keywordEach kws X.env)).any (·.1.isNone)) = false := by rfl) : PE X (.Call (.Name x p) (e :: es) kws pos) (tCallK sp gV E t tk) := by
  constructor
  intro pins s σ H Q I h
  refine wpAny_Call_Name_kw (ld_glob I hg hm ?_ hdb)
  refine PySem.W.callWith_KW (h₀ := X.base) I.ok.mod.kin hk hall ?_ hpl he
  refine thn (ha.run pos pins s σ H _ I h) fun us s1 q => ?_
  obtain ⟨vs, H1, I1, r, q1⟩ := q
  refine thn (hkw.run pos pins s1 σ H1 _ I1 q1) fun ws s2 q => ?_
  obtain ⟨zs, H2, I2, rz, q2⟩ := q
  rw [hks]
  exact And.intro I2.kIn (fnG_runK F hr gd hb hx I2 r rz q2)
end

/-! ### the law's own call -/
section
variable {P : Program} {w : World} {K : PySem.W.Frag} {mg mb : Str → Option Value} {CX : CXT} {k : Nat} {fa a : Addr} {fd : FuncData} {x : Str} {sp : Sp} {s1 : Shared} {vs : List Value} {ns : List Int}
/-- from one abstract heap in which at most the script is tracked -/
theorem law_from {H : Hp} (KX : K.In s1.heap) (hns : s1.heap.Ns mainGlobals mg) (hb : s1.heap.Ns builtinsNs mb) (hbb : ∀ x : Str, x ≠ "__name__" → mb x = bootBuiltins x) (hlim : s1.heap.NoLimit) (hg : s1.gens = #[])
    (ha : s1.heap.get? a = some { cls := .type "list", data := .seq vs.toArray }) (hr : Room k callerA)
    (F : ∀ base : Heap, K.In base → base.Ns mainGlobals mg → FnG P w K mg base CX k fa fd [x] sp) (hbind : ∀ (s : Shared) (u : Value), BindsTo s fd ⟨[u], []⟩ [(x, u)])
    (hsp : sp [.ref a] H (fun v _ => v = .bl true) fun _ _ _ => False) (hCX : ∀ e s', CX [] H s1 (fun _ _ _ => False) e s' → False)
    (only : Only H) (hok : HOk P w H s1.heap) (one : ∀ b, H b ≠ none → b = a) (out : H a ≠ none → K.lookup a = none) :
    codeAny (model P w) callerA (.call (.ref fa) ⟨[.ref a], []⟩) (fun r s' => r = .ok (.ret (.bool true)) ∧ OldK s1.heap s'.heap ∧ s'.os = s1.os ∧ AllBare s'.gens) s1 := by
  have free : ∀ {b : Addr} {o : Obj} {es : Array DictEntry} {ep : Nat}, s1.heap.get? b = some o → o.data = .dict es ep → H b = none := by
    intro b o es ep eo ed
    match hH : H b with
    | none => rfl
    | some u =>
      have same := one b (fun z => by rw [z] at hH; cases hH)
      rw [same, ha] at eo
      rw [← Option.some.inj eo] at ed
      exact nomatch ed
  have ns : ∀ {b : Addr} {m : Str → Option Value}, s1.heap.Ns b m → (hidT s1.heap H).Ns b m := by
    rintro b m ⟨o, es, ep, eo, ed, more⟩
    exact Exists.intro o (Exists.intro es (Exists.intro ep (And.intro (hidT_get eo (free eo ed)) (And.intro ed more))))
  have kin : K.In (hidT s1.heap H) := by
    intro b o lk
    refine hidT_get (KX b o lk) ?_
    match hH : H b with
    | none => rfl
    | some u =>
      have ne : H b ≠ none := fun z => by rw [z] at hH; cases hH
      have same := one b ne
      have gone := out (same ▸ ne)
      rw [← same, lk] at gone
      cases gone
  have mod : Mod K mg (hidT s1.heap H) := by
    obtain ⟨mc, l1, l2⟩ := hlim
    exact { kin := kin, glob := ns hns, blt := Exists.intro mb (And.intro (ns hb) hbb), nolimit := Exists.intro mc (And.intro (ns l1) l2) }
  have en : Env0 P w K mg (hidT s1.heap H) callerA [] s1 H :=
    { frames := rfl, mod := mod, bs := fun b o q => of_hidT q, bsz := Nat.le_of_eq (hidT_size _ _), funs := trivial, frf := fun b q => absurd q List.not_mem_nil, hok := hok, bare := AllBare.of_eq hg }
  refine codeAny_mono ((F _ kin (ns hns)).run callerA [] s1 H { pos := [.ref a], kw := [] } [.ref a] [.ref a] _ _ hr rfl en (hbind s1 (.ref a)) (.cons rfl .nil) hsp) ?_
  intro r s' got
  match r, got with
  | .error e, got => exact (hCX e s' got).elim
  | .ok (.ret u), ⟨v, H1, os, bare, un, hok1, rel, isT⟩ =>
    subst isT
    have isT' : u = Value.bool true := rel
    subst isT'
    refine And.intro rfl (And.intro (OldK.of_keep ?_) (And.intro os bare))
    intro b o eo
    match hH : H b with
    | none => exact un.keep b o eo hH (fun z => absurd z List.not_mem_nil) List.not_mem_nil
    | some u =>
      match only b with
      | .inl z => rw [z] at hH; cases hH
      | .inr ⟨ob, xs, z⟩ =>
        have was := (hok b _ z).1
        have is := (hok1 b _ (un.frzs b ob _ z)).1
        rw [eo] at was
        rw [is, ← was]
theorem law_callG (KX : K.In s1.heap) (hns : s1.heap.Ns mainGlobals mg) (hb : s1.heap.Ns builtinsNs mb) (hbb : ∀ x : Str, x ≠ "__name__" → mb x = bootBuiltins x) (hlim : s1.heap.NoLimit) (hg : s1.gens = #[])
    (ha : s1.heap.get? a = some { cls := .type "list", data := .seq vs.toArray }) (hi : IntsAre vs ns) (hl : ns.length ≤ sizeLine) (hr : Room k callerA)
    (F : ∀ base : Heap, K.In base → base.Ns mainGlobals mg → FnG P w K mg base CX k fa fd [x] sp) (hbind : ∀ (s : Shared) (u : Value), BindsTo s fd ⟨[u], []⟩ [(x, u)])
    (hsp : ∀ H : Hp, Only H → SqL K H a (ns.map V.int) → sp [.ref a] H (fun v _ => v = .bl true) fun _ _ _ => False) (hCX : ∀ H e s', CX [] H s1 (fun _ _ _ => False) e s' → False) :
    codeAny (model P w) callerA (.call (.ref fa) ⟨[.ref a], []⟩) (fun r s' => r = .ok (.ret (.bool true)) ∧ OldK s1.heap s'.heap ∧ s'.os = s1.os ∧ AllBare s'.gens) s1 := by
  have rel := vals_ints hi
  have size := hi.length
  match hk : K.lookup a with
  | some o =>
    have same := KX a o hk
    rw [ha] at same
    have same := Option.some.inj same
    subst same
    have only : Only (fun _ => none) := fun _ => .inl rfl
    refine law_from (H := fun _ => none) KX hns hb hbb hlim hg ha hr F hbind (hsp _ only (.inr ?_)) (hCX _) only (fun b u z => nomatch z) (fun b z => absurd rfl z) (fun z => absurd rfl z)
    refine ⟨_, vs.toArray, _, hk, rfl, rfl, rfl, ?_, by simpa using rel⟩
    rw [List.size_toArray, size]
    exact hl
  | none =>
    have here : (fun b => if b = a then some (HO.frz { cls := .type "list", data := .seq vs.toArray } (.lst (ns.map V.int))) else none : Hp) a = some (HO.frz { cls := .type "list", data := .seq vs.toArray } (.lst (ns.map V.int))) := if_pos rfl
    have else_ : ∀ b, b ≠ a → (fun b => if b = a then some (HO.frz { cls := .type "list", data := .seq vs.toArray } (.lst (ns.map V.int))) else none : Hp) b = none := fun b hb => if_neg hb
    have only : Only (fun b => if b = a then some (.frz { cls := .type "list", data := .seq vs.toArray } (.lst (ns.map V.int))) else none) := by
      intro b
      by_cases hb : b = a
      · subst hb
        exact .inr ⟨_, _, here⟩
      · exact .inl (else_ b hb)
    refine law_from KX hns hb hbb hlim hg ha hr F hbind (hsp _ only (.inl (.inr ⟨_, here⟩))) (hCX _) only ?_ ?_ (fun _ => hk)
    · intro b u z
      by_cases hb : b = a
      · subst hb
        have z2 := here.symm.trans z
        cases z2
        exact And.intro ha (And.intro (by rw [List.length_map]; exact hl) ⟨vs, _, rel, ha⟩)
      · exact nomatch (else_ b hb).symm.trans z
    · intro b z
      by_cases hb : b = a
      · exact hb
      · exact absurd (else_ b hb) z
end

/-- what k_head leaves, from the law's promise -/
theorem walk_ofG {l : PySem.W.OpenLaw} {n k : Nat} {q : Program} {loose : List Str} {XP : (Str → Option Value) → Heap → Prop} {YP : World → Heap → Prop} {d : DefRec} {K : Params → PySem.W.Frag} {CX : World → CXT} {sp : World → Sp} {x : Str}
    (hn : l.most = some n) (hn2 : n ≤ sizeLine) (hdf : d.params.defaults = []) (hr : Room k callerA) (hY : ∀ (w : World) (h : Heap), YP w h → (K w.params).In h)
    (F : ∀ (w : World) (mg : Str → Option Value) (fa : Addr) (h : Heap), (K w.params).In h → h.Ns mainGlobals mg → mg d.name = some (.ref fa) →
      ∃ fd : FuncData, (∀ (s : Shared) (u : Value), BindsTo s fd ⟨[u], []⟩ [(x, u)]) ∧ ∀ base : Heap, (K w.params).In base → base.Ns mainGlobals mg → FnG l.prog w (K w.params) mg base (CX w) k fa fd [x] (sp w))
    (hsp : ∀ (w : World) (H : Hp) (a : Addr) (ns : List Int), ns.length ≤ n → Only H → SqL (K w.params) H a (ns.map V.int) → sp w [.ref a] H (fun v _ => v = .bl true) fun _ _ _ => False)
    (hCX : ∀ (w : World) (H : Hp) (s : Shared) (e : Value) (s' : Shared), CX w [] H s (fun _ _ _ => False) e s' → False) : PySem.W.WalkO q loose XP YP l.row.toRowW d [] (fun f vs => PySem.call f vs) := by
  refine Att.attach_call hn hdf ?_
  intro w s0 s1 mg mb fa o pm cd doc a vs ns G Y ho hd hcd hmg hobj hints hlen hg
  have kin := hY w _ Y
  obtain ⟨fd, bnd, F1⟩ := F w mg fa _ kin G.T.g hmg
  exact law_callG kin G.T.g G.T.b G.T.builtins G.T.nolimit hg hobj hints (Nat.le_trans hlen hn2) hr F1 bnd (fun H only sq => hsp w H a ns hlen only sq) (fun H e s' => hCX w H s1 e s')
end HW
/-! Own layer, part B: what values stand for, states as lists of what stands in the slots, expressions. G: the part of the heap that no one changes any more. -/
namespace HW
open PySem PySem.Spec PyProof.Rows L2

/-- what a value stands for: data; an object at a place; anything that stays so -/
inductive Ab where
  | d (x : PyData)
  | at (p : Addr)
  | raw (P : V → Hp → Prop)
abbrev aI (i : Int) : Ab := .d (.int i)
abbrev aB (b : Bool) : Ab := .d (.bool b)
abbrev aS (s : Str) : Ab := .d (.str s)
abbrev aN : Ab := .d .none
abbrev aL (ds : List PyData) : Ab := .d (.list ds)
abbrev aT (ds : List PyData) : Ab := .d (.tuple ds)
abbrev Is (a : Ab) : Ab → Prop := fun x => x = a

theorem rd_same {G G' : Hp} (e : Same G G') {a : Addr} {u : HO} (h : Rd G a u) : Rd G' a u := by
  rcases h with h | ⟨o, h⟩
  · exact .inl (e _ _ h)
  · exact .inr ⟨o, e _ _ h⟩
theorem sqL_same {K : PySem.W.Frag} {G G' : Hp} (e : Same G G') {a : Addr} {xs : List V} (h : SqL K G a xs) : SqL K G' a xs := by
  rcases h with h | h
  · exact .inl (rd_same e h)
  · exact .inr h
theorem sqT_same {K : PySem.W.Frag} {G G' : Hp} (e : Same G G') {a : Addr} {xs : List V} (h : SqT K G a xs) : SqT K G' a xs := by
  rcases h with h | h
  · exact .inl (rd_same e h)
  · exact .inr h
/-! data that a value is, its lists made by the program (tracked), its tuples of any make -/
mutual
inductive Dp (K : PySem.W.Frag) (G : Hp) : V → PyData → Prop
  | non : Dp K G .non .none
  | bl (b : Bool) : Dp K G (.bl b) (.bool b)
  | int (i : Int) : Dp K G (.int i) (.int i)
  | str (x : Str) : Dp K G (.str x) (.str x)
  | lst {a : Addr} {xs : List V} {ds : List PyData} : G a = some (.lst xs) → DpAll K G xs ds → Dp K G (.ref a) (.list ds)
  | tup {a : Addr} {xs : List V} {ds : List PyData} : SqT K G a xs → DpAll K G xs ds → Dp K G (.ref a) (.tuple ds)
inductive DpAll (K : PySem.W.Frag) (G : Hp) : List V → List PyData → Prop
  | nil : DpAll K G [] []
  | cons {v : V} {vs : List V} {d : PyData} {ds : List PyData} : Dp K G v d → DpAll K G vs ds → DpAll K G (v :: vs) (d :: ds)
end
mutual
theorem Dp.old {K : PySem.W.Frag} {G : Hp} : ∀ (d : PyData) (v : V), Dp K G v d → L2.Dp K G v d
  | .none, _, h => by cases h; exact .non
  | .bool _, _, h => by cases h; exact .bl _
  | .int _, _, h => by cases h; exact .int _
  | .str _, _, h => by cases h; exact .str _
  | .list ds, _, h => by
    cases h with
    | lst hs ha => exact .lst (.inl (.inl hs)) (DpAll.old ds _ ha)
  | .tuple ds, _, h => by
    cases h with
    | tup hs ha => exact .tup hs (DpAll.old ds _ ha)
  | .dict _, _, h => by cases h
theorem DpAll.old {K : PySem.W.Frag} {G : Hp} : ∀ (ds : List PyData) (vs : List V), DpAll K G vs ds → L2.DpAll K G vs ds
  | [], _, h => by cases h; exact .nil
  | d :: ds, _, h => by
    cases h with
    | cons h1 h2 => exact .cons (Dp.old d _ h1) (DpAll.old ds _ h2)
end
mutual
theorem dp_same {K : PySem.W.Frag} {G G' : Hp} (e : Same G G') : ∀ (d : PyData) (v : V), Dp K G v d → Dp K G' v d
  | .none, _, h => by cases h; exact .non
  | .bool _, _, h => by cases h; exact .bl _
  | .int _, _, h => by cases h; exact .int _
  | .str _, _, h => by cases h; exact .str _
  | .list ds, _, h => by
    cases h with
    | lst hs ha => exact .lst (e _ _ hs) (dpAll_same e ds _ ha)
  | .tuple ds, _, h => by
    cases h with
    | tup hs ha => exact .tup (sqT_same e hs) (dpAll_same e ds _ ha)
  | .dict _, _, h => by cases h
theorem dpAll_same {K : PySem.W.Frag} {G G' : Hp} (e : Same G G') : ∀ (ds : List PyData) (vs : List V), DpAll K G vs ds → DpAll K G' vs ds
  | [], _, h => by cases h; exact .nil
  | d :: ds, _, h => by
    cases h with
    | cons h1 h2 => exact .cons (dp_same e d _ h1) (dpAll_same e ds _ h2)
end

def Rep (K : PySem.W.Frag) (G : Hp) (v : V) : Ab → Prop
  | .d x => Dp K G v x
  | .at p => v = .ref p
  | .raw P => ∃ G0, Same G0 G ∧ P v G0
theorem Rep.same {K : PySem.W.Frag} {G G' : Hp} (e : Same G G') {v : V} : ∀ {a : Ab}, Rep K G v a → Rep K G' v a
  | .d _, h => dp_same e _ _ h
  | .at _, h => h
  | .raw _, ⟨G0, e0, h⟩ => ⟨G0, e0.trans e, h⟩
def RepAll (K : PySem.W.Frag) (G : Hp) : List V → List Ab → Prop
  | [], [] => True
  | v :: vs, a :: as => Rep K G v a ∧ RepAll K G vs as
  | _, _ => False
section
variable {K : PySem.W.Frag} {G G' : Hp}
theorem RepAll.same (e : Same G G') : ∀ {vs : List V} {as : List Ab}, RepAll K G vs as → RepAll K G' vs as
  | [], [], _ => trivial
  | _ :: _, _ :: _, h => ⟨h.1.same e, RepAll.same e h.2⟩
  | [], _ :: _, h => h.elim
  | _ :: _, [], h => h.elim
theorem RepAll.length : ∀ {vs : List V} {as : List Ab}, RepAll K G vs as → vs.length = as.length
  | [], [], _ => rfl
  | _ :: _, _ :: _, h => by rw [List.length_cons, List.length_cons, RepAll.length h.2]
  | [], _ :: _, h => h.elim
  | _ :: _, [], h => h.elim
theorem RepAll.get : ∀ {vs : List V} {as : List Ab} {i : Nat} {a : Ab}, RepAll K G vs as → as[i]? = some a → ∃ v, vs[i]? = some v ∧ Rep K G v a
  | [], [], _, _, _, e => by simp at e
  | v :: _, _ :: _, 0, _, h, e => by
    have e : _ = _ := Option.some.inj e
    exact ⟨v, rfl, e ▸ h.1⟩
  | _ :: _, _ :: _, i + 1, _, h, e => by
    obtain ⟨v, h1, h2⟩ := RepAll.get (i := i) h.2 (by simpa using e)
    exact ⟨v, by simpa using h1, h2⟩
  | [], _ :: _, _, _, h, _ => h.elim
  | _ :: _, [], _, _, h, _ => h.elim
theorem RepAll.get' : ∀ {vs : List V} {as : List Ab} {i : Nat} {v : V}, RepAll K G vs as → vs[i]? = some v → ∃ a, as[i]? = some a ∧ Rep K G v a
  | [], [], _, _, _, e => by simp at e
  | _ :: _, a :: _, 0, _, h, e => by
    have e : _ = _ := Option.some.inj e
    exact ⟨a, rfl, e ▸ h.1⟩
  | _ :: _, _ :: _, i + 1, _, h, e => by
    obtain ⟨v, h1, h2⟩ := RepAll.get' (i := i) h.2 (by simpa using e)
    exact ⟨v, by simpa using h1, h2⟩
  | [], _ :: _, _, _, h, _ => h.elim
  | _ :: _, [], _, _, h, _ => h.elim
theorem RepAll.append : ∀ {vs ws : List V} {as bs : List Ab}, RepAll K G vs as → RepAll K G ws bs → RepAll K G (vs ++ ws) (as ++ bs)
  | [], _, [], _, _, h => h
  | _ :: _, _, _ :: _, _, h, h2 => ⟨h.1, RepAll.append h.2 h2⟩
  | [], _, _ :: _, _, h, _ => h.elim
  | _ :: _, _, [], _, h, _ => h.elim
theorem RepAll.set {v : V} {a : Ab} (r : Rep K G v a) : ∀ {vs : List V} {as : List Ab} (i : Nat), RepAll K G vs as → RepAll K G (vs.set i v) (as.set i a)
  | [], [], _, _ => trivial
  | _ :: _, _ :: _, 0, h => ⟨r, h.2⟩
  | _ :: _, _ :: _, i + 1, h => ⟨h.1, RepAll.set r i h.2⟩
  | [], _ :: _, _, h => h.elim
  | _ :: _, [], _, h => h.elim
theorem RepAll.take : ∀ {vs : List V} {as : List Ab} (i : Nat), RepAll K G vs as → RepAll K G (vs.take i) (as.take i)
  | [], [], 0, _ => trivial
  | [], [], _ + 1, _ => trivial
  | _ :: _, _ :: _, 0, _ => trivial
  | _ :: _, _ :: _, i + 1, h => ⟨h.1, RepAll.take i h.2⟩
  | [], _ :: _, _, h => h.elim
  | _ :: _, [], _, h => h.elim
theorem RepAll.drop : ∀ {vs : List V} {as : List Ab} (i : Nat), RepAll K G vs as → RepAll K G (vs.drop i) (as.drop i)
  | [], [], 0, _ => trivial
  | [], [], _ + 1, _ => trivial
  | _ :: _, _ :: _, 0, h => h
  | _ :: _, _ :: _, i + 1, h => RepAll.drop i h.2
  | [], _ :: _, _, h => h.elim
  | _ :: _, [], _, h => h.elim
theorem RepAll.erase : ∀ {vs : List V} {as : List Ab} (i : Nat), RepAll K G vs as → RepAll K G (vs.eraseIdx i) (as.eraseIdx i)
  | [], [], _, _ => trivial
  | _ :: _, _ :: _, 0, h => h.2
  | _ :: _, _ :: _, i + 1, h => ⟨h.1, RepAll.erase i h.2⟩
  | [], _ :: _, _, h => h.elim
  | _ :: _, [], _, h => h.elim
theorem RepAll.reverse : ∀ {vs : List V} {as : List Ab}, RepAll K G vs as → RepAll K G vs.reverse as.reverse
  | [], [], _ => trivial
  | _ :: _, _ :: _, h => by
    rw [List.reverse_cons, List.reverse_cons]
    exact RepAll.append (RepAll.reverse h.2) ⟨h.1, trivial⟩
  | [], _ :: _, h => h.elim
  | _ :: _, [], h => h.elim
theorem RepAll.rep {vs : List V} {as : List Ab} (h : RepAll K G vs as) : ∀ k : Nat, RepAll K G (List.replicate k vs).flatten (List.replicate k as).flatten
  | 0 => trivial
  | k + 1 => by
    rw [List.replicate_succ, List.replicate_succ, List.flatten_cons, List.flatten_cons]
    exact RepAll.append h (RepAll.rep h k)
theorem repAll_dp : ∀ {vs : List V} {ds : List PyData}, RepAll K G vs (ds.map .d) ↔ DpAll K G vs ds
  | [], [] => ⟨fun _ => .nil, fun _ => trivial⟩
  | v :: vs, d :: ds => ⟨fun h => .cons h.1 (repAll_dp.mp h.2), fun h => by
      cases h with
      | cons h1 h2 => exact ⟨h1, repAll_dp.mpr h2⟩⟩
  | [], _ :: _ => ⟨fun h => h.elim, fun h => nomatch h⟩
  | _ :: _, [] => ⟨fun h => h.elim, fun h => nomatch h⟩
theorem repAll_ints : ∀ {vs : List V} {ns : List Int}, RepAll K G vs (ns.map aI) → vs = ns.map V.int
  | [], [], _ => rfl
  | v :: vs, n :: ns, h => by
    obtain ⟨h1, h2⟩ := h
    have h1 : Dp K G v (.int n) := h1
    cases h1
    rw [List.map_cons, repAll_ints h2]
  | [], _ :: _, h => h.elim
  | _ :: _, [], h => h.elim
theorem ints_repAll : ∀ (ns : List Int), RepAll K G (ns.map V.int) (ns.map aI)
  | [] => trivial
  | n :: ns => ⟨Dp.int n, ints_repAll ns⟩
end

/-! ### slots -/
def Loc (K : PySem.W.Frag) (G : Hp) : L2.St → List (Option Ab) → Prop
  | [], [] => True
  | _ :: σ, none :: ρ => Loc K G σ ρ
  | o :: σ, some a :: ρ => (∃ v, o = some v ∧ Rep K G v a) ∧ Loc K G σ ρ
  | _, _ => False
def wipeA (ρ : List (Option Ab)) : List Nat → List (Option Ab)
  | [] => ρ
  | v :: vs => (wipeA ρ vs).set v none
def startA (N : List Str) (as : List Ab) : List (Option Ab) := as.map some ++ List.replicate (N.length - as.length) none
section
variable {K : PySem.W.Frag} {G G' : Hp}
theorem Loc.same (e : Same G G') : ∀ {σ : L2.St} {ρ : List (Option Ab)}, Loc K G σ ρ → Loc K G' σ ρ
  | [], [], _ => trivial
  | _ :: σ, none :: ρ, h => Loc.same (σ := σ) (ρ := ρ) e h
  | _ :: _, some _ :: _, h => by
    obtain ⟨⟨v, e1, r⟩, h2⟩ := h
    exact ⟨⟨v, e1, r.same e⟩, Loc.same e h2⟩
  | [], _ :: _, h => by cases h
  | _ :: _, [], h => by cases h
theorem Loc.get : ∀ {σ : L2.St} {ρ : List (Option Ab)} {i : Nat} {a : Ab}, Loc K G σ ρ → ρ[i]? = some (some a) → ∃ v, σ[i]? = some (some v) ∧ Rep K G v a
  | [], [], _, _, _, e => by simp at e
  | o :: _, none :: _, 0, _, _, e => by simp at e
  | o :: _, some a :: _, 0, b, h, e => by
    obtain ⟨⟨v, e1, r⟩, _⟩ := h
    have e2 : a = b := by simpa using e
    subst e1 e2
    exact ⟨v, rfl, r⟩
  | _ :: σ, none :: ρ, i + 1, a, h, e => by
    obtain ⟨v, h1, h2⟩ := Loc.get (σ := σ) (ρ := ρ) (i := i) (a := a) h (by simpa using e)
    exact ⟨v, by simpa using h1, h2⟩
  | _ :: σ, some _ :: ρ, i + 1, a, h, e => by
    obtain ⟨v, h1, h2⟩ := Loc.get (σ := σ) (ρ := ρ) (i := i) (a := a) h.2 (by simpa using e)
    exact ⟨v, by simpa using h1, h2⟩
  | [], _ :: _, _, _, h, _ => by cases h
  | _ :: _, [], _, _, h, _ => by cases h
theorem Loc.set {v : V} {a : Ab} (r : Rep K G v a) : ∀ {σ : L2.St} {ρ : List (Option Ab)} (i : Nat), Loc K G σ ρ → Loc K G (σ.set i (some v)) (ρ.set i (some a))
  | [], [], _, _ => trivial
  | _ :: _, none :: _, 0, h => ⟨⟨v, rfl, r⟩, h⟩
  | _ :: _, some _ :: _, 0, h => ⟨⟨v, rfl, r⟩, h.2⟩
  | _ :: σ, none :: ρ, i + 1, h => Loc.set (σ := σ) (ρ := ρ) r i h
  | _ :: _, some _ :: _, i + 1, h => ⟨h.1, Loc.set r i h.2⟩
  | [], _ :: _, _, h => by cases h
  | _ :: _, [], _, h => by cases h
theorem Loc.setN : ∀ {σ : L2.St} {ρ : List (Option Ab)} (i : Nat), Loc K G σ ρ → Loc K G (σ.set i none) (ρ.set i none)
  | [], [], _, _ => trivial
  | _ :: _, none :: _, 0, h => h
  | _ :: _, some _ :: _, 0, h => h.2
  | _ :: σ, none :: ρ, i + 1, h => Loc.setN (σ := σ) (ρ := ρ) i h
  | _ :: _, some _ :: _, i + 1, h => ⟨h.1, Loc.setN i h.2⟩
  | [], _ :: _, _, h => by cases h
  | _ :: _, [], _, h => by cases h
theorem Loc.wipe {σ : L2.St} {ρ : List (Option Ab)} (h : Loc K G σ ρ) : ∀ vs : List Nat, Loc K G (L2.wipe σ vs) (wipeA ρ vs)
  | [] => h
  | v :: vs => Loc.setN v (Loc.wipe h vs)
theorem Loc.start : ∀ {vs : List V} {as : List Ab} (n : Nat), RepAll K G vs as → Loc K G (vs.map some ++ List.replicate n none) (as.map some ++ List.replicate n none)
  | [], [], 0, _ => trivial
  | [], [], n + 1, h => by
    rw [List.replicate_succ, List.replicate_succ]
    exact Loc.start (vs := []) (as := []) n trivial
  | v :: _, _ :: _, n, h => ⟨⟨v, rfl, h.1⟩, Loc.start n h.2⟩
  | [], _ :: _, _, h => h.elim
  | _ :: _, [], _, h => h.elim
theorem Loc.starts {N : List Str} {vs : List V} {as : List Ab} (h : RepAll K G vs as) : Loc K G (L2.start N vs) (startA N as) := by
  unfold L2.start startA
  rw [h.length]
  exact Loc.start _ h
end
theorem wipe_set {σ : L2.St} {i : Nat} {o : Option V} : ∀ {vs : List Nat}, i ∈ vs → L2.wipe (σ.set i o) vs = L2.wipe σ vs
  | [], h => by cases h
  | v :: vs, h => by
    show (L2.wipe (σ.set i o) vs).set v none = (L2.wipe σ vs).set v none
    by_cases hi : i ∈ vs
    · rw [wipe_set hi]
    · have e : i = v := by
        rcases List.mem_cons.mp h with e | e
        · exact e
        · exact absurd e hi
      subst e
      have out : ∀ {us : List Nat}, i ∉ us → L2.wipe (σ.set i o) us = (L2.wipe σ us).set i o := by
        intro us
        induction us with
        | nil => intro _; rfl
        | cons u us ih =>
          intro hn
          have h1 : i ≠ u := fun z => hn (z ▸ List.mem_cons_self)
          have h2 : i ∉ us := fun z => hn (List.mem_cons_of_mem _ z)
          show (L2.wipe (σ.set i o) us).set u none = ((L2.wipe σ us).set u none).set i o
          rw [ih h2, List.set_comm _ _ h1]
      rw [out hi, List.set_set]

/-! ### what may change -/
/-- a resource that expressions may change: its places, what holds of the heap whatever they do -/
structure Rs where
  F : Addr → Prop
  I : Hp → Prop
  has : ∀ H b, I H → F b → ∃ o, H b = some o
  st : ∀ H H', I H → (∀ b o, F b → H b = some o → H' b = some o) → I H'
def rs0 : Rs := ⟨fun _ => False, fun _ => True, fun _ _ _ h => h.elim, fun _ _ _ _ => trivial⟩
inductive MO where
  | lst (xs : List Ab)
  | dct (kvs : List (Key × Ab))
structure Me where
  p : Addr
  mu : Bool
  o : MO
abbrev Mem := List Me
def MRep (K : PySem.W.Frag) (G H : Hp) (p : Addr) : MO → Prop
  | .lst xs => ∃ vs, H p = some (.lst vs) ∧ RepAll K G vs xs
  | .dct kvs => ∃ vs, H p = some (.dK vs) ∧ vs.map (·.1) = kvs.map (·.1) ∧ RepAll K G (vs.map (·.2)) (kvs.map (·.2))
structure Ok (K : PySem.W.Frag) (rs : Rs) (M : Mem) (G H : Hp) : Prop where
  gh : Same G H
  sep : ∀ b, rs.F b → G b = none
  i : rs.I H
  m : ∀ e ∈ M, G e.p = none ∧ ¬ rs.F e.p ∧ MRep K G H e.p e.o
  nd : ∀ (j k : Nat) (e f : Me), M[j]? = some e → M[k]? = some f → e.p = f.p → j = k
/-- what an expression makes of the heap -/
structure Nxt (rs : Rs) (G H G' H' : Hp) : Prop where
  g : Same G G'
  gh : Same G' H'
  h : ∀ b o, H b = some o → ¬ rs.F b → H' b = some o
  nw : ∀ b o, G' b = some o → G b = some o ∨ H b = none
  i : rs.I H'
section
variable {K : PySem.W.Frag} {rs : Rs} {M : Mem} {G H G1 H1 G2 H2 : Hp}
theorem MRep.same {p : Addr} {o : MO} (e : Same G G1) (h : ∀ o, H p = some o → H1 p = some o) (m : MRep K G H p o) : MRep K G1 H1 p o := by
  cases o with
  | lst xs =>
    obtain ⟨vs, e1, r⟩ := m
    exact ⟨vs, h _ e1, r.same e⟩
  | dct kvs =>
    obtain ⟨vs, e1, k, r⟩ := m
    exact ⟨vs, h _ e1, k, r.same e⟩
theorem MRep.there {p : Addr} {o : MO} (m : MRep K G H p o) : ∃ u, H p = some u := by
  cases o with
  | lst xs =>
    obtain ⟨vs, e1, _⟩ := m
    exact ⟨_, e1⟩
  | dct kvs =>
    obtain ⟨vs, e1, _⟩ := m
    exact ⟨_, e1⟩
theorem Nxt.rfl (ok : Ok K rs M G H) : Nxt rs G H G H := ⟨Same.refl _, ok.gh, fun _ _ h _ => h, fun _ _ h => .inl h, ok.i⟩
theorem Ok.free (ok : Ok K rs M G H) {b : Addr} (h : H b = none) : ¬ rs.F b := fun f => by
  obtain ⟨o, e⟩ := rs.has H b ok.i f
  rw [h] at e
  cases e
theorem Nxt.trans (a : Nxt rs G H G1 H1) (b : Nxt rs G1 H1 G2 H2) (ok : Ok K rs M G H) : Nxt rs G H G2 H2 where
  g := a.g.trans b.g
  gh := b.gh
  h := fun c o e f => b.h c o (a.h c o e f) f
  nw := fun c o e => by
    rcases b.nw c o e with e1 | e1
    · exact a.nw c o e1
    · refine .inr ?_
      cases q : H c with
      | none => exact Eq.refl _
      | some u =>
        exfalso
        by_cases f : rs.F c
        · obtain ⟨o', e'⟩ := rs.has H1 c a.i f
          rw [e1] at e'
          cases e'
        · have := a.h c u q f
          rw [e1] at this
          cases this
  i := b.i
theorem Ok.nxt (ok : Ok K rs M G H) (n : Nxt rs G H G1 H1) : Ok K rs M G1 H1 where
  gh := n.gh
  sep := fun b f => by
    cases q : G1 b with
    | none => rfl
    | some o =>
      rcases n.nw b o q with e | e
      · rw [ok.sep b f] at e
        cases e
      · exact absurd f (ok.free e)
  i := n.i
  m := fun e he => by
    obtain ⟨h1, h2, h3⟩ := ok.m e he
    refine ⟨?_, h2, h3.same n.g fun o ho => n.h _ _ ho h2⟩
    cases q : G1 e.p with
    | none => rfl
    | some o =>
      obtain ⟨u, hu⟩ := h3.there
      rcases n.nw _ o q with z | z
      · rw [h1] at z
        cases z
      · rw [hu] at z
        cases z
  nd := ok.nd
theorem Ok.sub (ok : Ok K rs M G H) {M' : Mem} (h : ∀ e ∈ M', ∃ m, (⟨e.p, m, e.o⟩ : Me) ∈ M) (nd : ∀ (j k : Nat) (e f : Me), M'[j]? = some e → M'[k]? = some f → e.p = f.p → j = k) : Ok K rs M' G H where
  gh := ok.gh
  sep := ok.sep
  i := ok.i
  m := fun e he => by
    obtain ⟨m, hm⟩ := h e he
    exact ok.m ⟨e.p, m, e.o⟩ hm
  nd := nd
theorem Nxt.al (n : Nxt rs G H G1 H1) {b : Addr} {o : HO} (h : H b = some o) : ∃ o', H1 b = some o' := by
  by_cases f : rs.F b
  · exact rs.has H1 b n.i f
  · exact ⟨o, n.h b o h f⟩
/-- a new object, frozen at once -/
theorem Nxt.new (ok : Ok K rs M G H) {p : Addr} {o : HO} (hp : H p = none) : Nxt rs G H (upd G p o) (upd H p o) where
  g := fun b u e => by
    rw [upd_ne (ne_of_none (ok.gh _ _ e) hp)]
    exact e
  gh := fun b u e => by
    by_cases hb : b = p
    · subst hb
      rw [upd_same] at e ⊢
      exact e
    · rw [upd_ne hb] at e ⊢
      exact ok.gh _ _ e
  h := fun b u e _ => by
    rw [upd_ne (ne_of_none e hp)]
    exact e
  nw := fun b u e => by
    by_cases hb : b = p
    · subst hb
      exact .inr hp
    · rw [upd_ne hb] at e
      exact .inl e
  i := rs.st H _ ok.i fun b u f e => by
    rw [upd_ne (ne_of_none e hp)]
    exact e
/-- a new object, not frozen -/
theorem Nxt.newM (ok : Ok K rs M G H) {p : Addr} {o : HO} (hp : H p = none) : Nxt rs G H G (upd H p o) where
  g := Same.refl _
  gh := fun b u e => by
    rw [upd_ne (ne_of_none (ok.gh _ _ e) hp)]
    exact ok.gh _ _ e
  h := fun b u e _ => by
    rw [upd_ne (ne_of_none e hp)]
    exact e
  nw := fun b u e => .inl e
  i := rs.st H _ ok.i fun b u f e => by
    rw [upd_ne (ne_of_none e hp)]
    exact e
/-- an object of the heap's is frozen -/
theorem Nxt.frz (n : Nxt rs G H G1 H1) {p : Addr} {o : HO} (h1 : H1 p = some o) (h0 : H p = none) (g1 : G1 p = none) : Nxt rs G H (upd G1 p o) H1 where
  g := fun b u e => by
    rw [upd_ne]
    · exact n.g _ _ e
    · rintro rfl
      rw [n.g _ _ e] at g1
      cases g1
  gh := fun b u e => by
    by_cases hb : b = p
    · subst hb
      rw [upd_same] at e
      rw [h1, e]
    · rw [upd_ne hb] at e
      exact n.gh _ _ e
  h := n.h
  nw := fun b u e => by
    by_cases hb : b = p
    · subst hb
      exact .inr h0
    · rw [upd_ne hb] at e
      exact n.nw _ _ e
  i := n.i
theorem Ok.gnone (ok : Ok K rs M G H) {p : Addr} (hp : H p = none) : G p = none := by
  cases q : G p with
  | none => rfl
  | some o =>
    rw [ok.gh _ _ q] at hp
    cases hp
end

/-! ### expressions -/
def tD (K : PySem.W.Frag) (rs : Rs) (M : Mem) (ρ : List (Option Ab)) (R : Ab → Prop) : TE := fun σ H Q => ∃ G, Loc K G σ ρ ∧ Ok K rs M G H ∧ ∀ v a G' H', R a → Rep K G' v a → Nxt rs G H G' H' → Q v H'
def tDA (K : PySem.W.Frag) (rs : Rs) (M : Mem) (ρ : List (Option Ab)) (R : List Ab → Prop) : TA := fun σ H Q => ∃ G, Loc K G σ ρ ∧ Ok K rs M G H ∧ ∀ vs as G' H', R as → RepAll K G' vs as → Nxt rs G H G' H' → Q vs H'
def tDT (K : PySem.W.Frag) (rs : Rs) (M : Mem) (ρ : List (Option Ab)) (R : Bool → Prop) : TT := fun σ H Q => ∃ G, Loc K G σ ρ ∧ Ok K rs M G H ∧ ∀ b G' H', R b → Nxt rs G H G' H' → Q b H'
/-- a new list, not frozen -/
def tDN (K : PySem.W.Frag) (rs : Rs) (M : Mem) (ρ : List (Option Ab)) (R : List Ab → Prop) : TE := fun σ H Q => ∃ G, Loc K G σ ρ ∧ Ok K rs M G H ∧
  ∀ p vs as G' H', R as → RepAll K G' vs as → H' p = some (.lst vs) → G' p = none → H p = none → Nxt rs G H G' H' → Q (.ref p) H'
abbrev DE (X : Cx) (rs : Rs) (M : Mem) (ρ : List (Option Ab)) (e : Expr) (R : Ab → Prop) : Prop := PE X e (tD X.K rs M ρ R)
abbrev DA (X : Cx) (rs : Rs) (M : Mem) (ρ : List (Option Ab)) (es : List Expr) (R : List Ab → Prop) : Prop := PA X es (tDA X.K rs M ρ R)
abbrev DT (X : Cx) (rs : Rs) (M : Mem) (ρ : List (Option Ab)) (e : Expr) (R : Bool → Prop) : Prop := PT X e (tDT X.K rs M ρ R)
abbrev DW (X : Cx) (rs : Rs) (M : Mem) (ρ : List (Option Ab)) (e : Expr) (R : Bool → Prop) : Prop := PW X e (tDT X.K rs M ρ R)
abbrev DN (X : Cx) (rs : Rs) (M : Mem) (ρ : List (Option Ab)) (e : Expr) (R : List Ab → Prop) : Prop := PE X e (tDN X.K rs M ρ R)
/-- operations on values -/
def AR2 (K : PySem.W.Frag) (rs : Rs) (M : Mem) (r : R2) (x y : Ab) (R : Ab → Prop) : Prop := ∀ G H v u (Q : VK), Ok K rs M G H → Rep K G v x → Rep K G u y → (∀ z a G' H', R a → Rep K G' z a → Nxt rs G H G' H' → Q z H') → r v u H Q
def AR1 (K : PySem.W.Frag) (rs : Rs) (M : Mem) (r : V → Hp → VK → Prop) (x : Ab) (R : Ab → Prop) : Prop := ∀ G H v (Q : VK), Ok K rs M G H → Rep K G v x → (∀ z a G' H', R a → Rep K G' z a → Nxt rs G H G' H' → Q z H') → r v H Q
def ARC (K : PySem.W.Frag) (rs : Rs) (M : Mem) (r : List V → Hp → VK → Prop) (as : List Ab) (R : Ab → Prop) : Prop := ∀ G H vs (Q : VK), Ok K rs M G H → RepAll K G vs as → (∀ z a G' H', R a → Rep K G' z a → Nxt rs G H G' H' → Q z H') → r vs H Q
/-- .. that make a new list -/
def ANC (K : PySem.W.Frag) (rs : Rs) (M : Mem) (r : List V → Hp → VK → Prop) (as : List Ab) (R : List Ab → Prop) : Prop := ∀ G H vs (Q : VK), Ok K rs M G H → RepAll K G vs as →
  (∀ p ws bs G' H', R bs → RepAll K G' ws bs → H' p = some (.lst ws) → G' p = none → H p = none → Nxt rs G H G' H' → Q (.ref p) H') → r vs H Q
def AN2 (K : PySem.W.Frag) (rs : Rs) (M : Mem) (r : R2) (x y : Ab) (R : List Ab → Prop) : Prop := ∀ G H v u (Q : VK), Ok K rs M G H → Rep K G v x → Rep K G u y →
  (∀ p ws bs G' H', R bs → RepAll K G' ws bs → H' p = some (.lst ws) → G' p = none → H p = none → Nxt rs G H G' H' → Q (.ref p) H') → r v u H Q
section
variable {X : Cx} {rs : Rs} {M : Mem} {ρ : List (Option Ab)} {a b e o : Expr} {es : List Expr} {pos pos' apos p : Pos} {Ra Rb R R' : Ab → Prop} {x : Str} {i j : Int}
theorem pe_weak {te te' : TE} (h : PE X e te) (w : ∀ σ H Q, te' σ H Q → te σ H Q) : PE X e te' := ⟨fun pins s σ H Q I q => h.run pins s σ H Q I (w σ H Q q)⟩
theorem pa_weak {t t' : TA} (h : PA X es t) (w : ∀ σ H Q, t' σ H Q → t σ H Q) : PA X es t' := ⟨fun ps pins s σ H Q I q => h.run ps pins s σ H Q I (w σ H Q q)⟩
theorem pt_weak {t t' : TT} (h : PT X e t) (w : ∀ σ H Q, t' σ H Q → t σ H Q) : PT X e t' := ⟨fun pins s σ H Q I q => h.run pins s σ H Q I (w σ H Q q)⟩
theorem pw_weak {t t' : TT} (h : PW X e t) (w : ∀ σ H Q, t' σ H Q → t σ H Q) : PW X e t' := ⟨fun wh pins s σ H Q I q => h.run wh pins s σ H Q I (w σ H Q q)⟩
theorem de_imp (h : DE X rs M ρ e R) (w : ∀ a, R a → R' a) : DE X rs M ρ e R' := pe_weak h fun _ _ _ ⟨G, l, ok, k⟩ => ⟨G, l, ok, fun v a G' H' r => k v a G' H' (w a r)⟩
theorem de_is {y z : Ab} (h : DE X rs M ρ e (Is y)) (w : y = z) : DE X rs M ρ e (Is z) := w ▸ h
theorem dt_imp {T T' : Bool → Prop} (h : DT X rs M ρ e T) (w : ∀ a, T a → T' a) : DT X rs M ρ e T' := pt_weak h fun _ _ _ ⟨G, l, ok, k⟩ => ⟨G, l, ok, fun v G' H' r => k v G' H' (w v r)⟩
theorem dn_imp {T T' : List Ab → Prop} (h : DN X rs M ρ e T) (w : ∀ a, T a → T' a) : DN X rs M ρ e T' := pe_weak h fun _ _ _ ⟨G, l, ok, k⟩ => ⟨G, l, ok, fun p vs as G' H' r => k p vs as G' H' (w as r)⟩
/-- a value and what follows -/
theorem tD_go {K : PySem.W.Frag} {σ : L2.St} {G H : Hp} (l : Loc K G σ ρ) (ok : Ok K rs M G H) {Q : VK} (k : ∀ v a G' H', R a → Rep K G' v a → Loc K G' σ ρ → Ok K rs M G' H' → Nxt rs G H G' H' → Q v H') : tD K rs M ρ R σ H Q :=
  ⟨G, l, ok, fun v a G' H' r re n => k v a G' H' r re (l.same n.g) (ok.nxt n) n⟩

theorem de_var (i : Nat) {y : Ab} (h : ρ[i]? = some (some y)) (hN : X.N[i]? = some x := by rfl) (hv : Vis X.env.scope x := by first | exact Or.inl rfl | exact Or.inr (Or.inl rfl) | exact Or.inr (Or.inr rfl)) (hd : (x == ("__debug__" : Str)) = false := by decide)
    (hcd : (x == ("__classdict__" : Str)) = false := by decide) : DE X rs M ρ (.Name x pos) (Is y) :=
  pe_weak (pe_var (i := i) hN hv hd hcd) fun σ H Q ⟨G, l, ok, k⟩ => by
    obtain ⟨v, e, r⟩ := l.get h
    exact ⟨v, e, k v y G H rfl r (Nxt.rfl ok)⟩
theorem de_int {n : Int} {q : Nat} : DE X rs M ρ (.Constant (.int n) q pos) (Is (aI n)) := pe_weak pe_int fun σ H Q ⟨G, l, ok, k⟩ => k _ _ G H rfl (Dp.int n) (Nxt.rfl ok)
theorem de_bl {n : Bool} {q : Nat} : DE X rs M ρ (.Constant (.bool n) q pos) (Is (aB n)) := pe_weak pe_bl fun σ H Q ⟨G, l, ok, k⟩ => k _ _ G H rfl (Dp.bl n) (Nxt.rfl ok)
theorem de_non {q : Nat} : DE X rs M ρ (.Constant .none q pos) (Is aN) := pe_weak pe_non fun σ H Q ⟨G, l, ok, k⟩ => k _ _ G H rfl Dp.non (Nxt.rfl ok)
theorem de_str {n : Str} {q : Nat} : DE X rs M ρ (.Constant (.str n) q pos) (Is (aS n)) := pe_weak pe_str fun σ H Q ⟨G, l, ok, k⟩ => k _ _ G H rfl (Dp.str n) (Nxt.rfl ok)
theorem de_op {op : Operator} {r : R2} (ho : OpR X (binaryOp op) r) (ha : DE X rs M ρ a Ra) (hb : DE X rs M ρ b Rb) (h : ∀ y z, Ra y → Rb z → AR2 X.K rs M r y z R) : DE X rs M ρ (.BinOp a op b pos) R :=
  pe_weak (pe_op ho ha hb) fun σ H Q ⟨G, l, ok, k⟩ => tD_go l ok fun v y G1 H1 ry rep1 l1 ok1 n1 => tD_go l1 ok1 fun u z G2 H2 rz rep2 l2 ok2 n2 =>
    h y z ry rz G2 H2 v u Q ok2 (rep1.same n2.g) rep2 fun w c G3 H3 rc rep3 n3 => k w c G3 H3 rc rep3 (n1.trans (n2.trans n3 ok1) ok)
theorem dn_op {op : Operator} {r : R2} {T : List Ab → Prop} (ho : OpR X (binaryOp op) r) (ha : DE X rs M ρ a Ra) (hb : DE X rs M ρ b Rb) (h : ∀ y z, Ra y → Rb z → AN2 X.K rs M r y z T) : DN X rs M ρ (.BinOp a op b pos) T :=
  pe_weak (pe_op ho ha hb) fun σ H Q ⟨G, l, ok, k⟩ => tD_go l ok fun v y G1 H1 ry rep1 l1 ok1 n1 => tD_go l1 ok1 fun u z G2 H2 rz rep2 l2 ok2 n2 =>
    h y z ry rz G2 H2 v u Q ok2 (rep1.same n2.g) rep2 fun q ws bs G3 H3 rb rep3 e3 g3 h3 n3 => k q ws bs G3 H3 rb rep3 e3 g3 (by
      cases z : H q with
      | none => rfl
      | some u =>
        have n12 := n1.trans n2 ok
        by_cases f : rs.F q
        · obtain ⟨o, e⟩ := rs.has H2 q ok2.i f
          rw [h3] at e
          cases e
        · rw [n12.h q u z f] at h3
          cases h3) (n1.trans (n2.trans n3 ok1) ok)
theorem de_cmp {op : CmpOp} {r : R2} (ho : OpR X (compareOp op) r) (ha : DE X rs M ρ a Ra) (hb : DE X rs M ρ b Rb) (h : ∀ y z, Ra y → Rb z → AR2 X.K rs M r y z R) (hm : behindInMarks op b = false) : DE X rs M ρ (.Compare a [op] [b] pos) R :=
  pe_weak (pe_cmpR ho ha hb hm) fun σ H Q ⟨G, l, ok, k⟩ => tD_go l ok fun v y G1 H1 ry rep1 l1 ok1 n1 => tD_go l1 ok1 fun u z G2 H2 rz rep2 l2 ok2 n2 =>
    h y z ry rz G2 H2 v u Q ok2 (rep1.same n2.g) rep2 fun w c G3 H3 rc rep3 n3 => k w c G3 H3 rc rep3 (n1.trans (n2.trans n3 ok1) ok)
theorem dt_cmp {op : CmpOp} {r : R2} {T : Bool → Prop} (ho : OpR X (compareOp op) r) (ha : DE X rs M ρ a Ra) (hb : DE X rs M ρ b Rb) (h : ∀ y z, Ra y → Rb z → AR2 X.K rs M r y z (fun w => ∃ c, w = aB c ∧ T c)) (hm : behindInMarks op b = false) : DT X rs M ρ (.Compare a [op] [b] pos) T :=
  pt_weak (pt_cmpR ho ha hb hm) fun σ H Q ⟨G, l, ok, k⟩ => tD_go l ok fun v y G1 H1 ry rep1 l1 ok1 n1 => tD_go l1 ok1 fun u z G2 H2 rz rep2 l2 ok2 n2 =>
    h y z ry rz G2 H2 v u _ ok2 (rep1.same n2.g) rep2 fun w c G3 H3 rc rep3 n3 => by
      obtain ⟨t, rfl, ht⟩ := rc
      have rep3 : Dp X.K G3 w (.bool t) := rep3
      cases rep3
      exact ⟨t, rfl, k t G3 H3 ht (n1.trans (n2.trans n3 ok1) ok)⟩
theorem de_un {op : UnaryOp} {r : V → Hp → VK → Prop} (ho : UnR X (unaryOp op) r) (ha : DE X rs M ρ a Ra) (h : ∀ y, Ra y → AR1 X.K rs M r y R) : DE X rs M ρ (.UnaryOp op a pos) R :=
  pe_weak (pe_un ho ha) fun σ H Q ⟨G, l, ok, k⟩ => tD_go l ok fun v y G1 H1 ry rep1 l1 ok1 n1 => h y ry G1 H1 v Q ok1 rep1 fun w c G3 H3 rc rep3 n3 => k w c G3 H3 rc rep3 (n1.trans n3 ok)
theorem da_nil : DA X rs M ρ [] (fun as => as = []) := pa_weak pa_nil fun σ H Q ⟨G, l, ok, k⟩ => k [] [] G H rfl trivial (Nxt.rfl ok)
theorem da_consR {T T' : List Ab → Prop} (ha : DE X rs M ρ e Ra) (hr : DA X rs M ρ es T) (h : ∀ y ys, Ra y → T ys → T' (y :: ys)) (hs : starEach (e :: es) X.env = (false, eval e X.env) :: starEach es X.env := by rfl) : DA X rs M ρ (e :: es) T' :=
  pa_weak (pa_cons ha hr hs) fun σ H Q ⟨G, l, ok, k⟩ => tD_go l ok fun v y G1 H1 ry rep1 l1 ok1 n1 => ⟨G1, l1, ok1, fun vs ys G2 H2 ry2 rep2 n2 => k (v :: vs) (y :: ys) G2 H2 (h y ys ry ry2) ⟨rep1.same n2.g, rep2⟩ (n1.trans n2 ok)⟩
theorem da_cons {y : Ab} {ys : List Ab} (ha : DE X rs M ρ e (Is y)) (hr : DA X rs M ρ es (fun as => as = ys)) (hs : starEach (e :: es) X.env = (false, eval e X.env) :: starEach es X.env := by rfl) : DA X rs M ρ (e :: es) (fun as => as = y :: ys) :=
  da_consR ha hr (fun _ _ h1 h2 => by rw [h1, h2]) hs
theorem de_tupR {T : List Ab → Prop} {q : Nat} (ha : DA X rs M ρ es T) (h : ∀ as, T as → as.length ≤ 100000 ∧ ∃ ds, as = ds.map .d ∧ R (aT ds)) : DE X rs M ρ (.Tuple es q pos) R :=
  pe_weak (pe_tup ha) fun σ H Q ⟨G, l, ok, k⟩ => ⟨G, l, ok, fun vs as G1 H1 ra rep n => by
    obtain ⟨hl, ds, rfl, r⟩ := h as ra
    refine ⟨by rw [rep.length]; exact Nat.le_trans hl (by decide), fun p hp => ?_⟩
    have n2 := Nxt.new (o := .tup vs) (ok.nxt n) hp
    exact k (.ref p) (aT ds) _ _ r (Dp.tup (.inl (.inl upd_same)) (dpAll_same n2.g _ _ (repAll_dp.mp rep))) (n.trans n2 ok)⟩
theorem de_tup {ds : List PyData} {as : List Ab} {q : Nat} (ha : DA X rs M ρ es (fun bs => bs = as)) (h : as = ds.map .d := by rfl) (hl : as.length ≤ 100000 := by first | (show (_ : Nat) ≤ _; simp; done) | decide) : DE X rs M ρ (.Tuple es q pos) (Is (aT ds)) :=
  de_tupR ha fun bs e => by subst e; exact ⟨hl, ds, h, rfl⟩
theorem dn_lst {T : List Ab → Prop} (ha : DA X rs M ρ es T) (h : ∀ as, T as → as.length ≤ 100000) : DN X rs M ρ (.List es pos) T :=
  pe_weak (pe_lst ha) fun σ H Q ⟨G, l, ok, k⟩ => ⟨G, l, ok, fun vs as G1 H1 ra rep n => by
    refine ⟨by rw [rep.length]; exact Nat.le_trans (h as ra) (by decide), fun p hp => ?_⟩
    have ok1 := ok.nxt n
    refine k p vs as G1 _ ra rep upd_same (ok1.gnone hp) ?_ (n.trans (Nxt.newM ok1 hp) ok)
    cases z : H p with
    | none => rfl
    | some u =>
      by_cases f : rs.F p
      · obtain ⟨o, e⟩ := rs.has H1 p ok1.i f
        rw [hp] at e
        cases e
      · rw [n.h p u z f] at hp
        cases hp⟩
/-- a new list, frozen -/
theorem de_of_dn {T : List Ab → Prop} (h : DN X rs M ρ e T) (w : ∀ as, T as → ∃ ds, as = ds.map .d ∧ R (aL ds)) : DE X rs M ρ e R :=
  pe_weak h fun σ H Q ⟨G, l, ok, k⟩ => ⟨G, l, ok, fun p vs as G1 H1 ra rep e1 g1 h0 n => by
    obtain ⟨ds, rfl, r⟩ := w as ra
    have n2 := n.frz e1 h0 g1
    refine k (.ref p) (aL ds) _ _ r (Dp.lst upd_same (dpAll_same (fun b u e => ?_) _ _ (repAll_dp.mp rep))) n2
    rw [upd_ne (ne_of_none e g1)]
    exact e⟩
theorem de_lst {ds : List PyData} {as : List Ab} (ha : DA X rs M ρ es (fun bs => bs = as)) (h : as = ds.map .d := by rfl) (hl : as.length ≤ 100000 := by first | (show (_ : Nat) ≤ _; simp; done) | decide) : DE X rs M ρ (.List es pos) (Is (aL ds)) :=
  de_of_dn (dn_lst ha fun bs e => by subst e; exact hl) fun bs e => ⟨ds, by rw [e, h], rfl⟩
theorem de_ifR {T : Bool → Prop} {c : Expr} (hc : DT X rs M ρ c T) (ha : T true → DE X rs M ρ a R) (hb : T false → DE X rs M ρ b R) : DE X rs M ρ (.IfExp c a b pos) R := by
  have ha' : PE X a (fun σ H Q => T true ∧ tD X.K rs M ρ R σ H Q) := ⟨fun pins s σ H Q I h => (ha h.1).run pins s σ H Q I h.2⟩
  have hb' : PE X b (fun σ H Q => T false ∧ tD X.K rs M ρ R σ H Q) := ⟨fun pins s σ H Q I h => (hb h.1).run pins s σ H Q I h.2⟩
  refine pe_weak (pe_ifExp hc ha' hb') fun σ H Q ⟨G, l, ok, k⟩ => ⟨G, l, ok, fun t G1 H1 ht n => ?_⟩
  cases t with
  | true => exact iteT ⟨ht, G1, l.same n.g, ok.nxt n, fun v y G2 H2 r rep n2 => k v y G2 H2 r rep (n.trans n2 ok)⟩
  | false => exact iteF ⟨ht, G1, l.same n.g, ok.nxt n, fun v y G2 H2 r rep n2 => k v y G2 H2 r rep (n.trans n2 ok)⟩

/-! ### tests -/
theorem dt_val (h : DE X rs M ρ e R) {T : Bool → Prop} (w : ∀ y, R y → ∃ c, y = aB c ∧ T c) (he : ∀ whole, isTrue e X.env whole = (do let v ← whole; standAt e.pos; holding [v] (truthy v)) := by intro _; rfl) : DT X rs M ρ e T :=
  pt_weak (pt_val h he) fun σ H Q ⟨G, l, ok, k⟩ => ⟨G, l, ok, fun v y G1 H1 ry rep n => by
    obtain ⟨c, rfl, t⟩ := w y ry
    have rep : Dp X.K G1 v (.bool c) := rep
    cases rep
    exact ⟨c, rfl, k c G1 H1 t n⟩⟩
theorem dt_not {T T' : Bool → Prop} (h : DT X rs M ρ a T) (w : ∀ c, T c → T' (!c)) : DT X rs M ρ (.UnaryOp .Not a pos) T' :=
  pt_weak (pt_not h) fun σ H Q ⟨G, l, ok, k⟩ => ⟨G, l, ok, fun c G1 H1 t n => k (!c) G1 H1 (w c t) n⟩
theorem dw_and1 {T : Bool → Prop} (h : DT X rs M ρ a T) : DW X rs M ρ (.BoolOp .And [a] pos) T := pw_and1 h
theorem dw_or1 {T : Bool → Prop} (h : DT X rs M ρ a T) : DW X rs M ρ (.BoolOp .Or [a] pos) T := pw_or1 h
theorem dw_and {T U V' : Bool → Prop} (ha : DT X rs M ρ a T) (hb : T true → DW X rs M ρ (.BoolOp .And (b :: es) pos) U) (h1 : T true → ∀ c, U c → V' c) (h2 : T false → V' false) : DW X rs M ρ (.BoolOp .And (a :: b :: es) pos) V' := by
  have hb' : PW X (.BoolOp .And (b :: es) pos) (fun σ H Q => T true ∧ tDT X.K rs M ρ U σ H Q) := ⟨fun wh pins s σ H Q I h => (hb h.1).run wh pins s σ H Q I h.2⟩
  refine pw_weak (pw_and ha hb') fun σ H Q ⟨G, l, ok, k⟩ => ⟨G, l, ok, fun t G1 H1 ht n => ?_⟩
  cases t with
  | true => exact iteT ⟨ht, G1, l.same n.g, ok.nxt n, fun c G2 H2 u n2 => k c G2 H2 (h1 ht c u) (n.trans n2 ok)⟩
  | false => exact iteF (k false G1 H1 (h2 ht) n)
theorem dw_or {T U V' : Bool → Prop} (ha : DT X rs M ρ a T) (hb : T false → DW X rs M ρ (.BoolOp .Or (b :: es) pos) U) (h1 : T true → V' true) (h2 : T false → ∀ c, U c → V' c) : DW X rs M ρ (.BoolOp .Or (a :: b :: es) pos) V' := by
  have hb' : PW X (.BoolOp .Or (b :: es) pos) (fun σ H Q => T false ∧ tDT X.K rs M ρ U σ H Q) := ⟨fun wh pins s σ H Q I h => (hb h.1).run wh pins s σ H Q I h.2⟩
  refine pw_weak (pw_or ha hb') fun σ H Q ⟨G, l, ok, k⟩ => ⟨G, l, ok, fun t G1 H1 ht n => ?_⟩
  cases t with
  | true => exact iteT (k true G1 H1 (h1 ht) n)
  | false => exact iteF ⟨ht, G1, l.same n.g, ok.nxt n, fun c G2 H2 u n2 => k c G2 H2 (h2 ht c u) (n.trans n2 ok)⟩
/-- as a value -/
theorem de_and1 {op : BoolOp} (h : DE X rs M ρ a R) : DE X rs M ρ (.BoolOp op [a] pos) R := pe_one h
theorem de_and {T : Bool → Prop} (ha : DE X rs M ρ a Ra) (wa : ∀ y, Ra y → ∃ c, y = aB c ∧ T c) (hb : T true → DE X rs M ρ (.BoolOp .And (b :: es) pos) R) (h2 : T false → R (aB false)) : DE X rs M ρ (.BoolOp .And (a :: b :: es) pos) R := by
  have hb' : PE X (.BoolOp .And (b :: es) pos) (fun σ H Q => T true ∧ tD X.K rs M ρ R σ H Q) := ⟨fun pins s σ H Q I h => (hb h.1).run pins s σ H Q I h.2⟩
  refine pe_weak (pe_and ha hb') fun σ H Q ⟨G, l, ok, k⟩ => ⟨G, l, ok, fun v y G1 H1 ry rep n => ?_⟩
  obtain ⟨c, rfl, ht⟩ := wa y ry
  have rep' : Dp X.K G1 v (.bool c) := rep
  cases rep'
  refine ⟨c, rfl, ?_⟩
  cases c with
  | true => exact iteT ⟨ht, G1, l.same n.g, ok.nxt n, fun v y G2 H2 r rep n2 => k v y G2 H2 r rep (n.trans n2 ok)⟩
  | false => exact iteF (k _ _ G1 H1 (h2 ht) rep n)
theorem de_or {T : Bool → Prop} (ha : DE X rs M ρ a Ra) (wa : ∀ y, Ra y → ∃ c, y = aB c ∧ T c) (hb : T false → DE X rs M ρ (.BoolOp .Or (b :: es) pos) R) (h2 : T true → R (aB true)) : DE X rs M ρ (.BoolOp .Or (a :: b :: es) pos) R := by
  have hb' : PE X (.BoolOp .Or (b :: es) pos) (fun σ H Q => T false ∧ tD X.K rs M ρ R σ H Q) := ⟨fun pins s σ H Q I h => (hb h.1).run pins s σ H Q I h.2⟩
  refine pe_weak (pe_or ha hb') fun σ H Q ⟨G, l, ok, k⟩ => ⟨G, l, ok, fun v y G1 H1 ry rep n => ?_⟩
  obtain ⟨c, rfl, ht⟩ := wa y ry
  have rep' : Dp X.K G1 v (.bool c) := rep
  cases rep'
  refine ⟨c, rfl, ?_⟩
  cases c with
  | true => exact iteT (k _ _ G1 H1 (h2 ht) rep n)
  | false => exact iteF ⟨ht, G1, l.same n.g, ok.nxt n, fun v y G2 H2 r rep n2 => k v y G2 H2 r rep (n.trans n2 ok)⟩
theorem de_not {T : Bool → Prop} (ha : DE X rs M ρ a Ra) (wa : ∀ y, Ra y → ∃ c, y = aB c ∧ R (aB (!c))) : DE X rs M ρ (.UnaryOp .Not a pos) R :=
  pe_weak (pe_not ha) fun σ H Q ⟨G, l, ok, k⟩ => ⟨G, l, ok, fun v y G1 H1 ry rep n => by
    obtain ⟨c, rfl, ht⟩ := wa y ry
    have rep' : Dp X.K G1 v (.bool c) := rep
    cases rep'
    exact ⟨c, rfl, k _ (aB (!c)) G1 H1 ht (Dp.bl _) n⟩⟩

/-! ### calls -/
theorem de_callB {T : List Ab → Prop} {id : String} {r : List V → Hp → VK → Prop} (hc : CallR X (.builtin id) r) (hg : Gl X x) (hm : X.mg x = none) (hv : bootBuiltins x = some (.builtin id)) (ha : DA X rs M ρ (e :: es) T) (h : ∀ as, T as → ARC X.K rs M r as R)
    (hn : x ≠ "__name__" := by decide) (hdb : (x == ("__debug__" : Str)) = false := by decide) (hs : starEach (e :: es) X.env = (false, eval e X.env) :: starEach es X.env := by rfl) (hpl : (backTo pos (starEach es X.env)).any (·.1) = false := by rfl) : DE X rs M ρ (.Call (.Name x p) (e :: es) [] pos) R :=
  pe_weak (pe_callB hc hg hm hv ha hn hdb hs hpl) fun σ H Q ⟨G, l, ok, k⟩ => ⟨G, l, ok, fun vs as G1 H1 ra rep n => h as ra G1 H1 vs Q (ok.nxt n) rep fun z y G2 H2 r rep2 n2 => k z y G2 H2 r rep2 (n.trans n2 ok)⟩
theorem de_callTy {T : List Ab → Prop} {id : String} {r : List V → Hp → VK → Prop} (hc : CallR X (.type id) r) (hg : Gl X x) (hm : X.mg x = none) (hv : bootBuiltins x = some (.type id)) (ha : DA X rs M ρ (e :: es) T) (h : ∀ as, T as → ARC X.K rs M r as R)
    (hn : x ≠ "__name__" := by decide) (hdb : (x == ("__debug__" : Str)) = false := by decide) (hs : starEach (e :: es) X.env = (false, eval e X.env) :: starEach es X.env := by rfl) (hpl : (backTo pos (starEach es X.env)).any (·.1) = false := by rfl) : DE X rs M ρ (.Call (.Name x p) (e :: es) [] pos) R :=
  pe_weak (pe_callTy hc hg hm hv ha hn hdb hs hpl) fun σ H Q ⟨G, l, ok, k⟩ => ⟨G, l, ok, fun vs as G1 H1 ra rep n => h as ra G1 H1 vs Q (ok.nxt n) rep fun z y G2 H2 r rep2 n2 => k z y G2 H2 r rep2 (n.trans n2 ok)⟩
theorem fresh_of {rs : Rs} {M : Mem} {G H G1 H1 : Hp} {K : PySem.W.Frag} {p : Addr} (ok : Ok K rs M G H) (n : Nxt rs G H G1 H1) (h : H1 p = none) : H p = none := by
  cases z : H p with
  | none => rfl
  | some u =>
    by_cases f : rs.F p
    · obtain ⟨o, e⟩ := rs.has H1 p n.i f
      rw [h] at e
      cases e
    · rw [n.h p u z f] at h
      cases h
theorem dn_callTy {T T' : List Ab → Prop} {id : String} {r : List V → Hp → VK → Prop} (hc : CallR X (.type id) r) (hg : Gl X x) (hm : X.mg x = none) (hv : bootBuiltins x = some (.type id)) (ha : DA X rs M ρ (e :: es) T) (h : ∀ as, T as → ANC X.K rs M r as T')
    (hn : x ≠ "__name__" := by decide) (hdb : (x == ("__debug__" : Str)) = false := by decide) (hs : starEach (e :: es) X.env = (false, eval e X.env) :: starEach es X.env := by rfl) (hpl : (backTo pos (starEach es X.env)).any (·.1) = false := by rfl) : DN X rs M ρ (.Call (.Name x p) (e :: es) [] pos) T' :=
  pe_weak (pe_callTy hc hg hm hv ha hn hdb hs hpl) fun σ H Q ⟨G, l, ok, k⟩ => ⟨G, l, ok, fun vs as G1 H1 ra rep n => h as ra G1 H1 vs Q (ok.nxt n) rep fun q ws bs G2 H2 r rep2 e2 g2 h2 n2 => k q ws bs G2 H2 r rep2 e2 g2 (fresh_of ok n h2) (n.trans n2 ok)⟩

/-- a def's promise in these words: T tells, of the resource and the arguments, what is promised -/
def Spec (K : PySem.W.Frag) (T : Rs → Mem → List Ab → (Ab → Prop) → Prop) : Sp := fun vs H Q _ => ∃ rs M as R G, T rs M as R ∧ (∀ e ∈ M, e.mu = false) ∧ RepAll K G vs as ∧ Ok K rs M G H ∧ ∀ z a G' H', R a → Rep K G' z a → Nxt rs G H G' H' → Q z H'
theorem de_call {T : List Ab → Prop} {S : Rs → Mem → List Ab → (Ab → Prop) → Prop} {CX : CXT} {k : Nat} {f : Addr} {fd : FuncData} {ps : List Str} {E : XK} (F : FnG X.prog X.w X.K X.mg X.base CX k f fd ps (Spec X.K S)) (hr : Room k X.A) (gd : X.A.guards = some []) (hg : Gl X x) (hm : X.mg x = some (.ref f))
    (hk : PySem.W.keepIn X.K (.ref f) = true) (hb : Binds X.K fd ps []) (hx : Passes CX X E) (ha : DA X rs M ρ (e :: es) T) (h : ∀ as, T as → S rs [] as R)
    (hdb : (x == ("__debug__" : Str)) = false := by decide) (he : starEach (e :: es) X.env = (false, eval e X.env) :: starEach es X.env := by rfl) (hpl : (backTo pos (starEach es X.env)).any (·.1) = false := by rfl) : DE X rs M ρ (.Call (.Name x p) (e :: es) [] pos) R :=
  pe_weak (pe_callG (E := E) F hr gd hg hm hk hb .nil hx ha hdb he hpl) fun σ H Q ⟨G, l, ok, k⟩ => ⟨G, l, ok, fun vs as G1 H1 ra rep n => ⟨rs, [], as, R, G1, h as ra, fun _ z => absurd z List.not_mem_nil, by rw [List.append_nil]; exact rep, (ok.nxt n).sub (fun _ z => absurd z List.not_mem_nil) (fun _ _ _ _ z => by simp at z), fun z y G2 H2 r rep2 n2 => k z y G2 H2 r rep2 (n.trans n2 ok)⟩⟩
/-- .. with lists of the caller's that are read -/
theorem de_callM {M' : Mem} {T : List Ab → Prop} {S : Rs → Mem → List Ab → (Ab → Prop) → Prop} {CX : CXT} {k : Nat} {f : Addr} {fd : FuncData} {ps : List Str} {E : XK} (F : FnG X.prog X.w X.K X.mg X.base CX k f fd ps (Spec X.K S)) (hr : Room k X.A) (gd : X.A.guards = some []) (hg : Gl X x) (hm : X.mg x = some (.ref f))
    (hk : PySem.W.keepIn X.K (.ref f) = true) (hb : Binds X.K fd ps []) (hx : Passes CX X E) (ha : DA X rs M ρ (e :: es) T) (hM : ∀ e ∈ M', e.mu = false ∧ ∃ m, (⟨e.p, m, e.o⟩ : Me) ∈ M) (nd : ∀ (j k : Nat) (e f : Me), M'[j]? = some e → M'[k]? = some f → e.p = f.p → j = k) (h : ∀ as, T as → S rs M' as R)
    (hdb : (x == ("__debug__" : Str)) = false := by decide) (he : starEach (e :: es) X.env = (false, eval e X.env) :: starEach es X.env := by rfl) (hpl : (backTo pos (starEach es X.env)).any (·.1) = false := by rfl) : DE X rs M ρ (.Call (.Name x p) (e :: es) [] pos) R :=
  pe_weak (pe_callG (E := E) F hr gd hg hm hk hb .nil hx ha hdb he hpl) fun σ H Q ⟨G, l, ok, k⟩ => ⟨G, l, ok, fun vs as G1 H1 ra rep n => ⟨rs, M', as, R, G1, h as ra, fun e he => (hM e he).1, by rw [List.append_nil]; exact rep, (ok.nxt n).sub (fun e he => (hM e he).2) nd, fun z y G2 H2 r rep2 n2 => k z y G2 H2 r rep2 (n.trans n2 ok)⟩⟩
/-- f(k = v, ..) -/
abbrev DK (X : Cx) (rs : Rs) (M : Mem) (ρ : List (Option Ab)) (kws : List Keyword) (R : List Ab → Prop) : Prop := PK X kws (tDA X.K rs M ρ R)
theorem pk_weak {kws : List Keyword} {t t' : TA} (h : PK X kws t) (w : ∀ σ H Q, t' σ H Q → t σ H Q) : PK X kws t' := ⟨fun ps pins s σ H Q I q => h.run ps pins s σ H Q I (w σ H Q q)⟩
theorem dk_nil : DK X rs M ρ [] (fun as => as = []) := pk_weak pk_nil fun σ H Q ⟨G, l, ok, k⟩ => k [] [] G H rfl trivial (Nxt.rfl ok)
theorem dk_cons {y : Ab} {ys : List Ab} {kws : List Keyword} {nm : Option Str} {kpos : Pos} (ha : DE X rs M ρ e (Is y)) (hr : DK X rs M ρ kws (fun as => as = ys)) : DK X rs M ρ (⟨nm, e, kpos⟩ :: kws) (fun as => as = y :: ys) :=
  pk_weak (pk_cons ha hr) fun σ H Q ⟨G, l, ok, k⟩ => tD_go l ok fun v z G1 H1 rz rep1 l1 ok1 n1 => ⟨G1, l1, ok1, fun vs zs G2 H2 rz2 rep2 n2 => k (v :: vs) (z :: zs) G2 H2 (by rw [rz, rz2]) ⟨rep1.same n2.g, rep2⟩ (n1.trans n2 ok)⟩
theorem de_callK0 {as bs : List Ab} {S : Rs → Mem → List Ab → (Ab → Prop) → Prop} {CX : CXT} {k : Nat} {f : Addr} {fd : FuncData} {ps ks : List Str} {E : XK} {kws : List Keyword} {g : List Value → List Value → List Value} {gV : List V → List V → List V}
    (F : FnG X.prog X.w X.K X.mg X.base CX k f fd ps (Spec X.K S)) (hr : Room k X.A) (gd : X.A.guards = some []) (hg : Gl X x) (hm : X.mg x = some (.ref f)) (hk : PySem.W.keepIn X.K (.ref f) = true) (hb : KBinds X.K fd ps ks g gV) (hx : Passes CX X E)
    (hkw : DK X rs M ρ kws (fun cs => cs = as)) (hV : ∀ G vs, RepAll X.K G vs as → RepAll X.K G (gV [] vs) bs) (h : S rs [] bs R) (hall : (backToKw pos (keywordEach kws X.env)).all (·.1.isSome) = true := by rfl) (hks : (backToKw pos (keywordEach kws X.env)).filterMap (·.1) = ks := by rfl)
    (hdb : (x == ("__debug__" : Str)) = false := by decide) (hpl : ((backTo pos (starEach [] X.env)).any (·.1) || (backToKw pos (keywordEach kws X.env)).any (·.1.isNone)) = false := by rfl) : DE X rs M ρ (.Call (.Name x p) [] kws pos) R :=
  pe_weak (pe_callGK0 (E := E) F hr gd hg hm hk hb hx hkw hall hks hdb hpl) fun σ H Q ⟨G, l, ok, k⟩ => ⟨G, l, ok, fun vs cs G1 H1 rc rep n => by
    subst rc
    exact ⟨rs, [], bs, R, G1, h, fun _ z => absurd z List.not_mem_nil, hV G1 vs rep, (ok.nxt n).sub (fun _ z => absurd z List.not_mem_nil) (fun _ _ _ _ z => by simp at z), fun z y G2 H2 r rep2 n2 => k z y G2 H2 r rep2 (n.trans n2 ok)⟩⟩
end
end HW
/-! Own layer, part C: statements, what is walked, comprehensions, defs. -/
namespace HW
open PySem PySem.Spec PyProof.Rows L2 RZ

structure Sta where
  rs : Rs
  M : Mem
  ρ : List (Option Ab)
structure AE where
  nx : Sta → Prop
  rt : Rs → Mem → Ab → Prop
  bk : Sta → Prop := fun _ => False
  ct : Sta → Prop := fun _ => False
/-- how the heap lies behind the entry (G0, H0); Ff: what of the entry's may be changed -/
structure Lie (Ff : Addr → Prop) (G0 H0 G H : Hp) : Prop where
  g : Same G0 G
  h : ∀ b o, H0 b = some o → ¬ Ff b → H b = some o
  al : ∀ b o, H0 b = some o → ∃ o', H b = some o'
  nw : ∀ b o, G b = some o → G0 b = some o ∨ H0 b = none
structure Stand (K : PySem.W.Frag) (Ff : Addr → Prop) (G0 H0 : Hp) (S : Sta) (σ : L2.St) (G H : Hp) : Prop where
  loc : Loc K G σ S.ρ
  ok : Ok K S.rs S.M G H
  lie : Lie Ff G0 H0 G H
  own : ∀ e ∈ S.M, e.mu = true → H0 e.p = none ∨ Ff e.p
  fr : ∀ b, S.rs.F b → H0 b = none ∨ Ff b
section
variable {K : PySem.W.Frag} {Ff : Addr → Prop} {G0 H0 G H G1 H1 : Hp} {S : Sta} {σ : L2.St}
theorem Lie.nxt {rs : Rs} (l : Lie Ff G0 H0 G H) (fr : ∀ b, rs.F b → H0 b = none ∨ Ff b) (n : Nxt rs G H G1 H1) : Lie Ff G0 H0 G1 H1 where
  g := l.g.trans n.g
  h := fun b o e f => n.h b o (l.h b o e f) fun z => by
    rcases fr b z with z | z
    · rw [e] at z
      cases z
    · exact f z
  al := fun b o e => by
    obtain ⟨o', e'⟩ := l.al b o e
    exact n.al e'
  nw := fun b o e => by
    rcases n.nw b o e with z | z
    · exact l.nw b o z
    · refine .inr ?_
      cases q : H0 b with
      | none => rfl
      | some u =>
        obtain ⟨o', e'⟩ := l.al b u q
        rw [z] at e'
        cases e'
theorem Lie.refl (Ff : Addr → Prop) (G H : Hp) : Lie Ff G H G H := ⟨Same.refl _, fun _ _ h _ => h, fun b o h => ⟨o, h⟩, fun _ _ h => .inl h⟩
theorem Stand.nxt (s : Stand K Ff G0 H0 S σ G H) (n : Nxt S.rs G H G1 H1) : Stand K Ff G0 H0 S σ G1 H1 := ⟨s.loc.same n.g, s.ok.nxt n, s.lie.nxt s.fr n, s.own, s.fr⟩
theorem Stand.set {v : V} {a : Ab} {i : Nat} (s : Stand K Ff G0 H0 S σ G H) (r : Rep K G v a) : Stand K Ff G0 H0 ⟨S.rs, S.M, S.ρ.set i (some a)⟩ (σ.set i (some v)) G H := ⟨s.loc.set r i, s.ok, s.lie, s.own, s.fr⟩
/-- a new list of our own -/
theorem Stand.push {p : Addr} {vs : List V} {as : List Ab} (s : Stand K Ff G0 H0 S σ G H) (n : Nxt S.rs G H G1 H1) (rep : RepAll K G1 vs as) (e1 : H1 p = some (.lst vs)) (g1 : G1 p = none) (h0 : H p = none) :
    Stand K Ff G0 H0 ⟨S.rs, ⟨p, true, .lst as⟩ :: S.M, S.ρ⟩ σ G1 H1 := by
  have s1 := s.nxt n
  have was : ∀ e ∈ S.M, e.p ≠ p := fun e he z => by
    obtain ⟨_, _, m⟩ := s.ok.m e he
    obtain ⟨u, hu⟩ := m.there
    rw [z, h0] at hu
    cases hu
  refine ⟨s1.loc, ⟨s1.ok.gh, s1.ok.sep, s1.ok.i, fun e he => ?_, fun j k e f h1 h2 h3 => ?_⟩, s1.lie, fun e he hm => ?_, s1.fr⟩
  · rcases List.mem_cons.mp he with z | z
    · subst z
      exact ⟨g1, s.ok.free h0, vs, e1, rep⟩
    · exact s1.ok.m e z
  · cases j with
    | zero =>
      have h1 : _ = e := Option.some.inj h1
      subst h1
      cases k with
      | zero => rfl
      | succ k =>
        have h2' : S.M[k]? = some f := h2
        exact absurd h3.symm (was f (List.mem_of_getElem? h2'))
    | succ j =>
      have h1' : S.M[j]? = some e := h1
      cases k with
      | zero =>
        have h2 : _ = f := Option.some.inj h2
        subst h2
        exact absurd h3 (was e (List.mem_of_getElem? h1'))
      | succ k =>
        have h2' : S.M[k]? = some f := h2
        rw [s1.ok.nd j k e f h1' h2' h3]
  · rcases List.mem_cons.mp he with z | z
    · subst z
      refine .inl ?_
      cases q : H0 p with
      | none => rfl
      | some u =>
        obtain ⟨o', e'⟩ := s.lie.al p u q
        rw [h0] at e'
        cases e'
    · exact s1.own e z hm
/-- a list of our own is changed -/
theorem Stand.chg {k : Nat} {p : Addr} {o : MO} {u : HO} {o' : MO} (s : Stand K Ff G0 H0 S σ G H) (hM : S.M[k]? = some ⟨p, true, o⟩) (new : MRep K G (upd H p u) p o') : Stand K Ff G0 H0 ⟨S.rs, S.M.set k ⟨p, true, o'⟩, S.ρ⟩ σ G (upd H p u) := by
  have hmem := List.mem_of_getElem? hM
  obtain ⟨g1, nf, m⟩ := s.ok.m _ hmem
  have nG : ∀ b x, G b = some x → b ≠ p := fun b x e z => by
    rw [z, show G p = none from g1] at e
    cases e
  have at_ : ∀ j e, (S.M.set k ⟨p, true, o'⟩)[j]? = some e → (j = k ∧ e = ⟨p, true, o'⟩) ∨ (j ≠ k ∧ S.M[j]? = some e) := fun j e h => by
    by_cases hj : j = k
    · subst hj
      rw [List.getElem?_set_self (List.getElem?_eq_some_iff.mp hM).1] at h
      exact .inl ⟨rfl, (Option.some.inj h).symm⟩
    · rw [List.getElem?_set_ne (Ne.symm hj)] at h
      exact .inr ⟨hj, h⟩
  have nF : ∀ b, S.rs.F b → b ≠ p := fun b f z => nf (z ▸ f)
  refine ⟨s.loc, ⟨fun b x e => ?_, s.ok.sep, S.rs.st H _ s.ok.i fun b x f e => ?_, fun e he => ?_, fun j l e f h1 h2 h3 => ?_⟩, ⟨s.lie.g, fun b x e f => ?_, fun b x e => ?_, s.lie.nw⟩, fun e he hm => ?_, s.fr⟩
  · rw [upd_ne (nG b x e)]
    exact s.ok.gh _ _ e
  · rw [upd_ne (nF b f)]
    exact e
  · obtain ⟨j, hj⟩ := List.getElem?_of_mem he
    rcases at_ j e hj with ⟨_, z⟩ | ⟨hne, z⟩
    · subst z
      exact ⟨g1, nf, new⟩
    · obtain ⟨q1, q2, q3⟩ := s.ok.m e (List.mem_of_getElem? z)
      refine ⟨q1, q2, q3.same (Same.refl _) fun o ho => ?_⟩
      rw [upd_ne fun z2 => hne (s.ok.nd j k e _ z hM z2)]
      exact ho
  · rcases at_ j e h1 with ⟨rfl, z1⟩ | ⟨n1, z1⟩
    · rcases at_ l f h2 with ⟨rfl, z2⟩ | ⟨n2, z2⟩
      · rfl
      · exact (s.ok.nd j l _ f hM z2 (by rw [← h3, z1])).symm ▸ rfl
    · rcases at_ l f h2 with ⟨rfl, z2⟩ | ⟨n2, z2⟩
      · exact absurd (s.ok.nd j l e _ z1 hM (by rw [h3, z2])) n1
      · exact s.ok.nd j l e f z1 z2 h3
  · by_cases hb : b = p
    · subst hb
      rcases s.own _ hmem rfl with z | z
      · rw [show H0 b = none from z] at e
        cases e
      · exact absurd z f
    · rw [upd_ne hb]
      exact s.lie.h b x e f
  · by_cases hb : b = p
    · exact ⟨u, by rw [hb]; exact upd_same⟩
    · rw [upd_ne hb]
      exact s.lie.al b x e
  · obtain ⟨j, hj⟩ := List.getElem?_of_mem he
    rcases at_ j e hj with ⟨_, z⟩ | ⟨_, z⟩
    · subst z
      exact s.own ⟨p, true, o⟩ hmem rfl
    · exact s.own e (List.mem_of_getElem? z) hm
end

/-! ### statements -/
def tS (K : PySem.W.Frag) (Ff : Addr → Prop) (G0 H0 : Hp) (S : Sta) (D : AE) : TS := fun De σ H => ∃ G, Stand K Ff G0 H0 S σ G H ∧
  (∀ S' σ' G' H', D.nx S' → Stand K Ff G0 H0 S' σ' G' H' → De.nx σ' H') ∧
  (∀ rs M v a G' H', D.rt rs M a → Rep K G' v a → Ok K rs M G' H' → Lie Ff G0 H0 G' H' → (∀ e ∈ M, e.mu = true → H0 e.p = none ∨ Ff e.p) → De.rt v H') ∧
  (∀ S' σ' G' H', D.bk S' → Stand K Ff G0 H0 S' σ' G' H' → De.bk σ' H') ∧ (∀ S' σ' G' H', D.ct S' → Stand K Ff G0 H0 S' σ' G' H' → De.ct σ' H')
abbrev DS (X : Cx) (Ff : Addr → Prop) (S : Sta) (st : Stmt) (D : AE) : Prop := ∀ G0 H0, PS X st (tS X.K Ff G0 H0 S D)
abbrev DSs (X : Cx) (Ff : Addr → Prop) (S : Sta) (sts : List Stmt) (D : AE) : Prop := ∀ G0 H0, PSs X sts (tS X.K Ff G0 H0 S D)
/-- an expression that changes lists of our own on its way -/
def tX (K : PySem.W.Frag) (Ff : Addr → Prop) (G0 H0 : Hp) (S : Sta) (R : Sta → Ab → Prop) : TE := fun σ H Q => ∃ G, Stand K Ff G0 H0 S σ G H ∧ ∀ S' v a G' H', R S' a → Rep K G' v a → Stand K Ff G0 H0 S' σ G' H' → Same G G' → Q v H'
abbrev DX (X : Cx) (Ff : Addr → Prop) (S : Sta) (e : Expr) (R : Sta → Ab → Prop) : Prop := ∀ G0 H0, PE X e (tX X.K Ff G0 H0 S R)
section
variable {X : Cx} {Ff : Addr → Prop} {S : Sta} {rs : Rs} {M : Mem} {ρ : List (Option Ab)} {st : Stmt} {sts : List Stmt} {D : AE} {e o : Expr} {es : List Expr} {R Ra : Ab → Prop} {x : Str} {pos pos' p : Pos}
theorem ps_weak {t t' : TS} (h : PS X st t) (w : ∀ D σ H, t' D σ H → t D σ H) : PS X st t' := ⟨fun pins s σ H D I q => h.run pins s σ H D I (w D σ H q)⟩
theorem pss_weak {t t' : TS} (h : PSs X sts t) (w : ∀ D σ H, t' D σ H → t D σ H) : PSs X sts t' := ⟨fun pins s σ H D I q => h.run pins s σ H D I (w D σ H q)⟩
theorem ds_nil (h : D.nx S) : DSs X Ff S [] D := fun _ _ => pss_weak pss_nil fun _ σ H ⟨G, s, n, _⟩ => n S σ G H h s
theorem ds_cons (h : DS X Ff S st ⟨fun S' => DSs X Ff S' sts D, D.rt, D.bk, D.ct⟩) : DSs X Ff S (st :: sts) D := fun G0 H0 => by
  have h2 : PSs X sts (fun De σ H => ∃ S', DSs X Ff S' sts D ∧ tS X.K Ff G0 H0 S' D De σ H) := ⟨fun pins s σ H De I ⟨S', hS, q⟩ => (hS G0 H0).run pins s σ H De I q⟩
  refine pss_weak (pss_cons (h G0 H0) h2) fun De σ H ⟨G, s, n, r, b, c⟩ => ⟨G, s, fun S' σ' G' H' hS s' => ⟨S', hS, G', s', n, r, b, c⟩, r, b, c⟩
/-- a statement, then the rest, with a word between them -/
theorem ds_cut (Mid : Sta → Prop) (h : DS X Ff S st ⟨Mid, D.rt, D.bk, D.ct⟩) (k : ∀ S', Mid S' → DSs X Ff S' sts D) : DSs X Ff S (st :: sts) D :=
  ds_cons fun G0 H0 => ps_weak (h G0 H0) fun _ _ _ ⟨G, s, n, r, b, c⟩ => ⟨G, s, fun _ _ _ _ q => n _ _ _ _ (k _ q), r, b, c⟩
theorem ds_one (h : DS X Ff S st D) : DSs X Ff S [st] D := fun G0 H0 => pss_one (h G0 H0)
theorem ds_imp {D' : AE} (h : DS X Ff S st D) (h1 : ∀ S, D.nx S → D'.nx S) (h2 : ∀ rs M a, D.rt rs M a → D'.rt rs M a) (h3 : ∀ S, D.bk S → D'.bk S) (h4 : ∀ S, D.ct S → D'.ct S) : DS X Ff S st D' := fun G0 H0 =>
  ps_weak (h G0 H0) fun _ _ _ ⟨G, s, n, r, b, c⟩ => ⟨G, s, fun _ _ _ _ q => n _ _ _ _ (h1 _ q), fun _ _ _ _ _ _ q => r _ _ _ _ _ _ (h2 _ _ _ q), fun _ _ _ _ q => b _ _ _ _ (h3 _ q), fun _ _ _ _ q => c _ _ _ _ (h4 _ q)⟩
theorem dx_of {T : Sta → Ab → Prop} (h : DE X S.rs S.M S.ρ e R) (k : ∀ a, R a → T S a) : DX X Ff S e T := fun G0 H0 => pe_weak h fun σ H Q ⟨G, s, kk⟩ => ⟨G, s.loc, s.ok, fun v a G' H' r rep n => kk S v a G' H' (k a r) rep (s.nxt n) n.g⟩
theorem dx_new {T : List Ab → Prop} {U : Sta → Ab → Prop} (h : DN X S.rs S.M S.ρ e T) (k : ∀ q as, T as → U ⟨S.rs, ⟨q, true, .lst as⟩ :: S.M, S.ρ⟩ (.at q)) : DX X Ff S e U := fun G0 H0 =>
  pe_weak h fun σ H Q ⟨G, s, kk⟩ => ⟨G, s.loc, s.ok, fun q vs as G' H' t rep e1 g1 h0 nn => kk _ (.ref q) (.at q) G' H' (k q as t) rfl (s.push nn rep e1 g1 h0) nn.g⟩
theorem dx_imp {R R' : Sta → Ab → Prop} (h : DX X Ff S e R) (w : ∀ S' a, R S' a → R' S' a) : DX X Ff S e R' := fun G0 H0 => pe_weak (h G0 H0) fun _ _ _ ⟨G, s, k⟩ => ⟨G, s, fun S' v a G' H' r => k S' v a G' H' (w S' a r)⟩
theorem ds_setX {R : Sta → Ab → Prop} (i : Nat) (h : DX X Ff S e R) (k : ∀ S' a, R S' a → D.nx ⟨S'.rs, S'.M, S'.ρ.set i (some a)⟩) (hN : X.N.Nodup) (hi : X.N[i]? = some x := by rfl) (hx : L2.Loc X.env.scope x := by first | exact Or.inl rfl | exact Or.inr rfl)
    (hs : swapsWith e (some (.Name x pos')) pos.line X.env = pure false := by rfl) (hf : X.fn x = true ∨ X.env.scope.names.lookup x = some .local := by first | exact .inl rfl | exact .inr rfl) : DS X Ff S (.Assign [.Name x pos'] e pos) D := fun G0 H0 =>
  ps_weak (ps_set hN hi hx (h G0 H0) hs hf) fun De σ H ⟨G, s, n, _⟩ => ⟨G, s, fun S' v a G' H' r rep s' _ => n _ _ G' H' (k S' a r) (s'.set rep)⟩
theorem ds_set (i : Nat) (h : DE X S.rs S.M S.ρ e R) (k : ∀ a, R a → D.nx ⟨S.rs, S.M, S.ρ.set i (some a)⟩) (hN : X.N.Nodup) (hi : X.N[i]? = some x := by rfl) (hx : L2.Loc X.env.scope x := by first | exact Or.inl rfl | exact Or.inr rfl)
    (hs : swapsWith e (some (.Name x pos')) pos.line X.env = pure false := by rfl) (hf : X.fn x = true ∨ X.env.scope.names.lookup x = some .local := by first | exact .inl rfl | exact .inr rfl) : DS X Ff S (.Assign [.Name x pos'] e pos) D :=
  ds_setX i (R := fun S' a => S' = S ∧ R a) (dx_of h fun a r => ⟨rfl, r⟩) (fun S' a ⟨e, r⟩ => by subst e; exact k a r) hN hi hx hs hf
/-- a new list of our own gets a name -/
theorem ds_setN {T : List Ab → Prop} (i : Nat) (h : DN X S.rs S.M S.ρ e T) (k : ∀ q as, T as → D.nx ⟨S.rs, ⟨q, true, .lst as⟩ :: S.M, S.ρ.set i (some (.at q))⟩) (hN : X.N.Nodup) (hi : X.N[i]? = some x := by rfl) (hx : L2.Loc X.env.scope x := by first | exact Or.inl rfl | exact Or.inr rfl)
    (hs : swapsWith e (some (.Name x pos')) pos.line X.env = pure false := by rfl) (hf : X.fn x = true ∨ X.env.scope.names.lookup x = some .local := by first | exact .inl rfl | exact .inr rfl) : DS X Ff S (.Assign [.Name x pos'] e pos) D := fun G0 H0 =>
  ps_weak (ps_set hN hi hx h hs hf) fun De σ H ⟨G, s, n, _⟩ => ⟨G, s.loc, s.ok, fun q vs as G' H' t rep e1 g1 h0 nn => n _ _ G' H' (k q as t) ((s.push nn rep e1 g1 h0).set (a := .at q) rfl)⟩
theorem ds_retX {R : Sta → Ab → Prop} (h : DX X Ff S e R) (k : ∀ S' a, R S' a → D.rt S'.rs S'.M a) : DS X Ff S (.Return (some e) pos) D := fun G0 H0 =>
  ps_weak (ps_ret (h G0 H0)) fun De σ H ⟨G, s, _, r, _⟩ => ⟨G, s, fun S' v a G' H' q rep s' _ => r _ _ v a G' H' (k S' a q) rep s'.ok s'.lie s'.own⟩
theorem ds_ret (h : DE X S.rs S.M S.ρ e R) (k : ∀ a, R a → D.rt S.rs S.M a) : DS X Ff S (.Return (some e) pos) D := ds_retX (R := fun S' a => S' = S ∧ R a) (dx_of h fun a r => ⟨rfl, r⟩) fun S' a ⟨e, r⟩ => by subst e; exact k a r
theorem ds_retN (k : D.rt S.rs S.M aN) : DS X Ff S (.Return none pos) D := fun G0 H0 => ps_weak ps_retN fun De σ H ⟨G, s, _, r, _⟩ => r _ _ _ aN G H k Dp.non s.ok s.lie s.own
/-- a list of our own is handed back -/
theorem ds_retOwn {i k : Nat} {q : Addr} {ds : List PyData} (h : S.ρ[i]? = some (some (.at q))) (hM : S.M[k]? = some ⟨q, true, .lst (ds.map .d)⟩) (hF : ∀ b, Ff b → S.rs.F b) (r : D.rt S.rs [] (aL ds)) (hN : X.N[i]? = some x := by rfl)
    (hv : Vis X.env.scope x := by first | exact Or.inl rfl | exact Or.inr (Or.inl rfl) | exact Or.inr (Or.inr rfl)) (hd : (x == ("__debug__" : Str)) = false := by decide) (hcd : (x == ("__classdict__" : Str)) = false := by decide) :
    DS X Ff S (.Return (some (.Name x p)) pos) D := fun G0 H0 => ps_weak (ps_ret (pe_var (i := i) hN hv hd hcd)) fun De σ H ⟨G, s, _, rt, _⟩ => by
  obtain ⟨v, e, rep⟩ := s.loc.get h
  have rep : v = .ref q := rep
  subst rep
  refine ⟨_, e, ?_⟩
  obtain ⟨g1, nf, vs, e1, ra⟩ := s.ok.m _ (List.mem_of_getElem? hM)
  have g1 : G q = none := g1
  have e1 : H q = some (.lst vs) := e1
  have h0 : H0 q = none := by
    rcases s.own _ (List.mem_of_getElem? hM) rfl with z | z
    · exact z
    · exact absurd (hF q z) nf
  have up : Same G (upd G q (.lst vs)) := fun b u eb => by
    rw [upd_ne (ne_of_none eb g1)]
    exact eb
  refine rt S.rs [] (.ref q) (aL ds) (upd G q (.lst vs)) H r (Dp.lst upd_same (dpAll_same up _ _ (repAll_dp.mp ra))) ⟨fun b u eb => ?_, fun b f => ?_, s.ok.i, fun e he => absurd he List.not_mem_nil, fun _ _ _ _ z => by simp at z⟩ ⟨s.lie.g.trans up, s.lie.h, s.lie.al, fun b u eb => ?_⟩ (fun e he => absurd he List.not_mem_nil)
  · by_cases hb : b = q
    · subst hb
      rw [upd_same] at eb
      rw [e1, eb]
    · rw [upd_ne hb] at eb
      exact s.ok.gh _ _ eb
  · rw [upd_ne (show b ≠ q from fun z => nf (show S.rs.F q from z ▸ f))]
    exact s.ok.sep b f
  · by_cases hb : b = q
    · subst hb
      exact .inr h0
    · rw [upd_ne hb] at eb
      exact s.lie.nw _ _ eb
theorem ds_if {T : Bool → Prop} {c : Expr} {a b : List Stmt} (hc : DT X S.rs S.M S.ρ c T) (ha : T true → DSs X Ff S a D) (hb : T false → DSs X Ff S b D) : DS X Ff S (.If c a b pos) D := fun G0 H0 => by
  have ha' : PSs X a (fun De σ H => T true ∧ tS X.K Ff G0 H0 S D De σ H) := ⟨fun pins s σ H De I q => (ha q.1 G0 H0).run pins s σ H De I q.2⟩
  have hb' : PSs X b (fun De σ H => T false ∧ tS X.K Ff G0 H0 S D De σ H) := ⟨fun pins s σ H De I q => (hb q.1 G0 H0).run pins s σ H De I q.2⟩
  refine ps_weak (ps_if hc ha' hb') fun De σ H ⟨G, s, r⟩ => ⟨G, s.loc, s.ok, fun t G1 H1 ht n => ?_⟩
  cases t with
  | true => exact iteT ⟨ht, G1, s.nxt n, r⟩
  | false => exact iteF ⟨ht, G1, s.nxt n, r⟩
theorem ds_exprX {R : Sta → Ab → Prop} (h : DX X Ff S e R) (k : ∀ S' a, R S' a → D.nx S') (hs : swapsWith e none pos.line X.env = pure false := by rfl) : DS X Ff S (.Expr e pos) D := fun G0 H0 =>
  ps_weak (ps_expr (h G0 H0) hs) fun De σ H ⟨G, s, n, _⟩ => ⟨G, s, fun S' v a G' H' r _ s' _ => n S' σ G' H' (k S' a r) s'⟩
theorem ds_pass (h : D.nx S) : DS X Ff S (.Pass pos) D := fun _ _ => ps_weak ps_pass fun _ σ H ⟨G, s, n, _⟩ => n S σ G H h s
theorem ds_break (h : D.bk S) : DS X Ff S (.Break pos) D := fun _ _ => ps_weak ps_break fun _ σ H ⟨G, s, _, _, b, _⟩ => b S σ G H h s
theorem ds_continue (h : D.ct S) : DS X Ff S (.Continue pos) D := fun _ _ => ps_weak ps_continue fun _ σ H ⟨G, s, _, _, _, c⟩ => c S σ G H h s
end
/-- arguments that make lists of our own, change them -/
def tAX (K : PySem.W.Frag) (Ff : Addr → Prop) (G0 H0 : Hp) (S : Sta) (R : Sta → List Ab → Prop) : TA := fun σ H Q => ∃ G, Stand K Ff G0 H0 S σ G H ∧ ∀ S' vs as G' H', R S' as → RepAll K G' vs as → Stand K Ff G0 H0 S' σ G' H' → Same G G' → Q vs H'
abbrev DAX (X : Cx) (Ff : Addr → Prop) (S : Sta) (es : List Expr) (R : Sta → List Ab → Prop) : Prop := ∀ G0 H0, PA X es (tAX X.K Ff G0 H0 S R)
section
variable {X : Cx} {Ff : Addr → Prop} {S : Sta} {D : AE} {e o : Expr} {es : List Expr} {T : Sta → List Ab → Prop} {x : Str} {pos pos' p apos : Pos}
theorem dax_nil (h : T S []) : DAX X Ff S [] T := fun _ _ => pa_weak pa_nil fun σ H Q ⟨G, s, k⟩ => k S [] [] G H h trivial s (Same.refl _)
/-- the frame's values stay while an expression runs -/
theorem dax_cons (h : DX X Ff S e (fun S' a => DAX X Ff S' es (fun S'' as => T S'' (a :: as)))) (hs : starEach (e :: es) X.env = (false, eval e X.env) :: starEach es X.env := by rfl) : DAX X Ff S (e :: es) T := fun G0 H0 => by
  have h2 : PA X es (fun σ H Q => ∃ S' U, DAX X Ff S' es U ∧ tAX X.K Ff G0 H0 S' U σ H Q) := ⟨fun ps pins s σ H Q I ⟨S', U, hS, q⟩ => (hS G0 H0).run ps pins s σ H Q I q⟩
  refine pa_weak (pa_cons (h G0 H0) h2 hs) fun σ H Q ⟨G, s, k⟩ => ⟨G, s, fun S' v a G1 H1 hU rep s1 g1 => ⟨S', _, hU, G1, s1, fun S'' vs as G2 H2 t reps s2 g2 => ?_⟩⟩
  exact k S'' (v :: vs) (a :: as) G2 H2 t ⟨rep.same g2, reps⟩ s2 (g1.trans g2)
/-- a, b = e, f -/
theorem ds_par {i j : Nat} {y : Str} {a b : Expr} {pa pb pt pt2 : Pos} {kt k2 : Nat} (hc : X.calm = true) (hN : X.N.Nodup) (ha : DAX X Ff S [a, b] (fun S' as => ∃ u v, as = [u, v] ∧ D.nx ⟨S'.rs, S'.M, (S'.ρ.set i (some u)).set j (some v)⟩))
    (hi : X.N[i]? = some x := by rfl) (hj : X.N[j]? = some y := by rfl) (hij : i ≠ j := by decide) (hx : X.env.scope.names.lookup x = some .local := by rfl) (hy : X.env.scope.names.lookup y = some .local := by rfl)
    (hw : swappedStores [.Tuple [.Name x pa, .Name y pb] kt pt] (.Tuple [a, b] k2 pt2) X.env = pure (some [x, y]) := by rfl)
    (hs : swapsWithSole [.Tuple [.Name x pa, .Name y pb] kt pt] (.Tuple [a, b] k2 pt2) pos.line X.env = pure false := by rfl) : DS X Ff S (.Assign [.Tuple [.Name x pa, .Name y pb] kt pt] (.Tuple [a, b] k2 pt2) pos) D := fun G0 H0 =>
  ps_weak (ps_par hc hN hi hj hij hx hy (ha G0 H0) hw hs) fun De σ H ⟨G, s, n, _⟩ => ⟨G, s, fun S' vs as G' H' t reps s' _ => by
    obtain ⟨u, v, rfl, q⟩ := t
    match vs, reps with
    | [w1, w2], ⟨r1, r2, _⟩ => exact ⟨w1, w2, rfl, n _ _ G' H' q ((s'.set r1).set r2)⟩⟩

/-! ### lists of our own: what changes them -/
/-- a method of the list at q: what it makes of the state -/
def LM (K : PySem.W.Frag) (Ff : Addr → Prop) (r : V → List V → Hp → VK → Prop) (q : Addr) (S : Sta) (as : List Ab) (U : Sta → Ab → Prop) : Prop := ∀ G0 H0 σ G H vs (Q : VK), Stand K Ff G0 H0 S σ G H → RepAll K G vs as →
  (∀ S' v a G' H', U S' a → Rep K G' v a → Stand K Ff G0 H0 S' σ G' H' → Same G G' → Q v H') → r (.ref q) vs H Q
theorem dx_list {q : Addr} {xs : List Ab} {k : Nat} {id : String} {name : Str} {r : V → List V → Hp → VK → Prop} {U : Sta → Ab → Prop} (slot : Slot "list" name id) (hty : typeOf (.builtin id) = pure (.type "method_descriptor")) (hm : MtR X id r) (ho : DE X S.rs S.M S.ρ o (Is (.at q)))
    (h0 : S.M[k]? = some ⟨q, true, .lst xs⟩) (ha : DAX X Ff S (e :: es) (fun S' as => LM X.K Ff r q S' as U)) (hbase : attributeBase o name X.env (eval o X.env) = eval o X.env := by rfl)
    (hfew : ((backTo pos (starEach (e :: es) X.env)).all (fun x => !x.1) && (backToKw pos (keywordEach [] X.env)).all (fun x => x.1.isSome)
      && decide ((e :: es).length + ([] : List Keyword).length + (if ([] : List Keyword).isEmpty then 0 else 1) < 30)) = true := by rfl)
    (hline : (apos.endLine == pos.line) = true := by rfl) (hs : starEach (e :: es) X.env = (false, eval e X.env) :: starEach es X.env := by rfl) (hpl : (backTo pos (starEach es X.env)).any (·.1) = false := by rfl) :
    DX X Ff S (.Call (.Attribute o name apos) (e :: es) [] pos) U := fun G0 H0 =>
  pe_weak (pe_bm PySem.F.plainAttrs_list slot hty hm ho (ha G0 H0) hbase hfew hline hs hpl) fun σ H Q ⟨G, s, kk⟩ => ⟨G, s.loc, s.ok, fun v a G1 H1 ra rep n => by
    subst ra
    have rep : v = .ref q := rep
    subst rep
    have s1 := s.nxt n
    obtain ⟨_, _, vs, e1, _⟩ := s1.ok.m _ (List.mem_of_getElem? h0)
    refine ⟨.inl ⟨rfl, vs, .inl (.inl e1)⟩, G1, s1, fun S' us as G2 H2 lm reps s2 g2 => lm G0 H0 σ G2 H2 us Q s2 reps fun S'' w c G3 H3 u rep3 s3 g3 => kk S'' w c G3 H3 u rep3 s3 (n.g.trans (g2.trans g3))⟩⟩
theorem dx_list0 {q : Addr} {xs : List Ab} {k : Nat} {id : String} {name : Str} {r : V → List V → Hp → VK → Prop} {U : Sta → Ab → Prop} (slot : Slot "list" name id) (hty : typeOf (.builtin id) = pure (.type "method_descriptor")) (hm : MtR X id r) (ho : DE X S.rs S.M S.ρ o (Is (.at q)))
    (h0 : S.M[k]? = some ⟨q, true, .lst xs⟩) (ha : LM X.K Ff r q S [] U) (hbase : attributeBase o name X.env (eval o X.env) = eval o X.env := by rfl) (hline : (apos.endLine == pos.line) = true := by rfl) :
    DX X Ff S (.Call (.Attribute o name apos) [] [] pos) U := fun G0 H0 =>
  pe_weak (pe_bm0 PySem.F.plainAttrs_list slot hty hm ho hbase hline) fun σ H Q ⟨G, s, kk⟩ => ⟨G, s.loc, s.ok, fun v a G1 H1 ra rep n => by
    subst ra
    have rep : v = .ref q := rep
    subst rep
    have s1 := s.nxt n
    obtain ⟨_, _, vs, e1, _⟩ := s1.ok.m _ (List.mem_of_getElem? h0)
    exact ⟨.inl ⟨rfl, vs, .inl (.inl e1)⟩, ha G0 H0 σ G1 H1 [] Q s1 trivial fun S'' w c G3 H3 u rep3 s3 g3 => kk S'' w c G3 H3 u rep3 s3 (n.g.trans g3)⟩⟩
theorem Stand.own_lst {K : PySem.W.Frag} {Ff : Addr → Prop} {G0 H0 G H : Hp} {S : Sta} {σ : L2.St} {k : Nat} {q : Addr} {b : Bool} {xs : List Ab} (s : Stand K Ff G0 H0 S σ G H) (h : S.M[k]? = some ⟨q, b, .lst xs⟩) : ∃ vs, H q = some (.lst vs) ∧ RepAll K G vs xs := by
  obtain ⟨_, _, vs, e1, r⟩ := s.ok.m _ (List.mem_of_getElem? h)
  exact ⟨vs, e1, r⟩
theorem lt_line {n : Nat} (h : n ≤ 100000) : n < sizeLine := Nat.lt_of_le_of_lt h (by decide)
theorem lm_append {K : PySem.W.Frag} {k : Nat} {q : Addr} {xs : List Ab} {a : Ab} {U : Sta → Ab → Prop} (h : S.M[k]? = some ⟨q, true, .lst xs⟩) (hl : xs.length ≤ 100000) (u : U ⟨S.rs, S.M.set k ⟨q, true, .lst (xs ++ [a])⟩, S.ρ⟩ aN) : LM K Ff rAppend q S [a] U := fun G0 H0 σ G H vs Q s reps kk => by
  obtain ⟨ws, e1, r⟩ := s.own_lst h
  match vs, reps with
  | [v], ⟨rv, _⟩ =>
    refine ⟨q, ws, v, rfl, rfl, e1, by rw [r.length]; exact lt_line hl, kk _ .non aN G _ u Dp.non (s.chg (u := .lst (ws ++ [v])) h ⟨_, upd_same, r.append ⟨rv, trivial⟩⟩) (Same.refl _)⟩
theorem lm_popAt {K : PySem.W.Frag} {k : Nat} {q : Addr} {xs : List Ab} {i : Int} {j : Nat} {a : Ab} {U : Sta → Ab → Prop} (h : S.M[k]? = some ⟨q, true, .lst xs⟩) (h1 : -(2 ^ 63) ≤ i) (h2 : i < 2 ^ 63) (hj : seqIndex? i xs.length = some j) (ha : xs[j]? = some a)
    (u : U ⟨S.rs, S.M.set k ⟨q, true, .lst (xs.eraseIdx j)⟩, S.ρ⟩ a) : LM K Ff rPopAt q S [aI i] U := fun G0 H0 σ G H vs Q s reps kk => by
  obtain ⟨ws, e1, r⟩ := s.own_lst h
  match vs, reps with
  | [v], ⟨rv, _⟩ =>
    have rv : Dp K G v (.int i) := rv
    cases rv
    obtain ⟨y, hy, ry⟩ := r.get ha
    exact ⟨q, ws, i, j, y, rfl, rfl, e1, h1, h2, by rw [r.length]; exact hj, hy, kk _ y a G _ u ry (s.chg (u := .lst (ws.eraseIdx j)) h ⟨_, upd_same, r.erase j⟩) (Same.refl _)⟩
theorem RepAll.dropLast {K : PySem.W.Frag} {G : Hp} {vs : List V} {as : List Ab} (h : RepAll K G vs as) : RepAll K G vs.dropLast as.dropLast := by
  rw [List.dropLast_eq_take, List.dropLast_eq_take, h.length]
  exact h.take _
theorem lm_pop {K : PySem.W.Frag} {k : Nat} {q : Addr} {xs : List Ab} {a : Ab} {U : Sta → Ab → Prop} (h : S.M[k]? = some ⟨q, true, .lst xs⟩) (ha : xs[xs.length - 1]? = some a) (u : U ⟨S.rs, S.M.set k ⟨q, true, .lst xs.dropLast⟩, S.ρ⟩ a) : LM K Ff rPop q S [] U := fun G0 H0 σ G H vs Q s reps kk => by
  obtain ⟨ws, e1, r⟩ := s.own_lst h
  match vs, reps with
  | [], _ =>
    obtain ⟨y, hy, ry⟩ := r.get ha
    exact ⟨q, ws, y, rfl, rfl, e1, by rw [r.length]; exact hy, kk _ y a G _ u ry (s.chg (u := .lst ws.dropLast) h ⟨_, upd_same, r.dropLast⟩) (Same.refl _)⟩
def rInsert : V → List V → Hp → VK → Prop := fun x vs H Q => ∃ (l : Addr) (xs : List V) (i : Int) (y : V), x = .ref l ∧ vs = [.int i, y] ∧ H l = some (.lst xs) ∧ xs.length < sizeLine ∧ 0 ≤ i ∧ i < 2 ^ 63 ∧ Q .non (upd H l (.lst (xs.take i.toNat ++ [y] ++ xs.drop i.toNat)))
theorem mt_insertI : MtR X "list.insert" rInsert := mt_insert
theorem lm_insert {K : PySem.W.Frag} {k : Nat} {q : Addr} {xs : List Ab} {i : Int} {a : Ab} {U : Sta → Ab → Prop} (h : S.M[k]? = some ⟨q, true, .lst xs⟩) (hl : xs.length ≤ 100000) (h0 : 0 ≤ i) (h1 : i < 2 ^ 63)
    (u : U ⟨S.rs, S.M.set k ⟨q, true, .lst (xs.take i.toNat ++ [a] ++ xs.drop i.toNat)⟩, S.ρ⟩ aN) : LM K Ff rInsert q S [aI i, a] U := fun G0 H0 σ G H vs Q s reps kk => by
  obtain ⟨ws, e1, r⟩ := s.own_lst h
  match vs, reps with
  | [v, y], ⟨rv, ry, _⟩ =>
    have rv : Dp K G v (.int i) := rv
    cases rv
    exact ⟨q, ws, i, y, rfl, rfl, e1, by rw [r.length]; exact lt_line hl, h0, h1, kk _ .non aN G _ u Dp.non (s.chg (u := .lst (ws.take i.toNat ++ [y] ++ ws.drop i.toNat)) h ⟨_, upd_same, ((r.take _).append (show RepAll K G [y] [a] from ⟨ry, trivial⟩)).append (r.drop _)⟩) (Same.refl _)⟩
/-- xs[i] = e, of a list of our own -/
theorem ds_setItem {ei : Expr} {kp : Pos} {q : Addr} {k j : Nat} {xs : List Ab} {n : Int} {R : Ab → Prop} (he : DE X S.rs S.M S.ρ e R) (ho : DE X S.rs S.M S.ρ o (Is (.at q))) (hi : DE X S.rs S.M S.ρ ei (Is (aI n))) (hM : S.M[k]? = some ⟨q, true, .lst xs⟩) (hj : ixN xs.length n = some j)
    (kk : ∀ a, R a → D.nx ⟨S.rs, S.M.set k ⟨q, true, .lst (xs.set j a)⟩, S.ρ⟩) (hg : PG X (.Subscript o ei kp) (gSub (tD X.K S.rs S.M S.ρ (Is (.at q))) (tD X.K S.rs S.M S.ρ (Is (aI n))) rSetL)) (hs : swapsWithSole [Expr.Subscript o ei kp] e pos.line X.env = pure false := by rfl)
    (hw : swappedStores [Expr.Subscript o ei kp] e X.env = pure none := by rfl) (h1 : (assignEach [Expr.Subscript o ei kp] X.env).map (·.2) = [assign (.Subscript o ei kp) X.env] := by rfl) : DS X Ff S (.Assign [.Subscript o ei kp] e pos) D := fun G0 H0 =>
  ps_weak (ps_asg he hg hs hw h1) fun De σ H ⟨G, s, nx, _⟩ => ⟨G, s.loc, s.ok, fun v a G1 H1 ra rep1 n1 => by
    have s1 := s.nxt n1
    refine ⟨G1, s1.loc, s1.ok, fun u b G2 H2 rb rep2 n2 => ?_⟩
    subst rb
    have rep2 : u = .ref q := rep2
    subst rep2
    have s2 := s1.nxt n2
    refine ⟨G2, s2.loc, s2.ok, fun y c G3 H3 rc rep3 n3 => ?_⟩
    subst rc
    have rep3 : Dp X.K G3 y (.int n) := rep3
    cases rep3
    have s3 := s2.nxt n3
    obtain ⟨vs, e1, r⟩ := s3.own_lst hM
    exact ⟨q, vs, n, j, rfl, rfl, e1, by rw [r.length]; exact hj, nx _ σ G3 _ (kk a ra) (s3.chg (u := .lst (vs.set j v)) hM ⟨_, upd_same, r.set (rep1.same (n2.g.trans n3.g)) j⟩)⟩⟩
/-- a list display whose items make lists of our own -/
theorem dx_lst {U : Sta → Ab → Prop} (ha : DAX X Ff S es (fun S' as => as.length ≤ 100000 ∧ ∀ q, U ⟨S'.rs, ⟨q, true, .lst as⟩ :: S'.M, S'.ρ⟩ (.at q))) : DX X Ff S (.List es pos) U := fun G0 H0 =>
  pe_weak (pe_lst (ha G0 H0)) fun σ H Q ⟨G, s, kk⟩ => ⟨G, s, fun S' vs as G1 H1 ⟨hl, u⟩ reps s1 g1 => ⟨by rw [reps.length]; exact Nat.le_trans hl (by decide), fun q hq =>
    kk _ (.ref q) (.at q) G1 _ (u q) rfl (s1.push (Nxt.newM s1.ok hq) reps upd_same (s1.ok.gnone hq) hq) g1⟩⟩
end

/-! ### targets -/
def setAll (ρ : List (Option Ab)) : List Nat → List Ab → List (Option Ab)
  | i :: is, a :: as => setAll (ρ.set i (some a)) is as
  | _, _ => ρ
def tT (K : PySem.W.Frag) (is : List Nat) (T : Ab → List (Option Ab) → List (Option Ab) → Prop) : TG := fun v σ H Q => ∃ G a ρ ρ', Loc K G σ ρ ∧ Rep K G v a ∧ Same G H ∧ T a ρ ρ' ∧ ∀ σ', Loc K G σ' ρ' → (∀ vs, (∀ i ∈ is, i ∈ vs) → L2.wipe σ' vs = L2.wipe σ vs) → Q σ' H
def tTs (K : PySem.W.Frag) (is : List Nat) : TGs := fun vs σ H Q => ∃ G as ρ, Loc K G σ ρ ∧ RepAll K G vs as ∧ as.length = is.length ∧ ∀ σ', Loc K G σ' (setAll ρ is as) → (∀ us, (∀ i ∈ is, i ∈ us) → L2.wipe σ' us = L2.wipe σ us) → Q σ' H
abbrev DG (X : Cx) (tg : Expr) (is : List Nat) (T : Ab → List (Option Ab) → List (Option Ab) → Prop) : Prop := PG X tg (tT X.K is T)
abbrev DGs (X : Cx) (ts : List Expr) (is : List Nat) : Prop := PGs X ts (tTs X.K is)
section
variable {X : Cx} {x : Str} {pos : Pos} {tg : Expr} {ts : List Expr} {is : List Nat}
theorem pg_weak {t t' : TG} (h : PG X tg t) (w : ∀ v σ H Q, t' v σ H Q → t v σ H Q) : PG X tg t' := ⟨fun pins s σ H v u Q I r q => h.run pins s σ H v u Q I r (w v σ H Q q)⟩
theorem pgs_weak {t t' : TGs} (h : PGs X ts t) (w : ∀ v σ H Q, t' v σ H Q → t v σ H Q) : PGs X ts t' := ⟨fun pins s σ H v u Q I r q => h.run pins s σ H v u Q I r (w v σ H Q q)⟩
theorem dg_name (i : Nat) (hN : X.N.Nodup) (hi : X.N[i]? = some x := by rfl) (hx : L2.Loc X.env.scope x := by first | exact Or.inl rfl | exact Or.inr rfl) (hf : X.fn x = true ∨ X.env.scope.names.lookup x = some .local := by first | exact .inl rfl | exact .inr rfl) :
    DG X (.Name x pos) [i] (fun a ρ ρ' => ρ' = ρ.set i (some a)) :=
  pg_weak (pg_name hN hi hx hf) fun v σ H Q ⟨G, a, ρ, ρ', l, r, e, t, k⟩ => by
    subst t
    exact k _ (l.set r i) fun vs h => wipe_set (h i List.mem_cons_self)
theorem dgs_nil : DGs X [] [] := pgs_weak pgs_nil fun vs σ H Q ⟨G, as, ρ, l, r, e, k⟩ => by
  have e : as = [] := List.length_eq_zero_iff.mp e
  subst e
  match vs, r with
  | [], _ => exact ⟨rfl, k σ l fun _ _ => rfl⟩
theorem dgs_cons (i : Nat) (h : DGs X ts is) (hN : X.N.Nodup) (hi : X.N[i]? = some x := by rfl) (hx : L2.Loc X.env.scope x := by first | exact Or.inl rfl | exact Or.inr rfl) (hf : X.fn x = true ∨ X.env.scope.names.lookup x = some .local := by first | exact .inl rfl | exact .inr rfl) :
    DGs X (.Name x pos :: ts) (i :: is) := pgs_weak (pgs_cons (pg_name hN hi hx hf) h) fun vs σ H Q ⟨G, as, ρ, l, r, e, k⟩ => by
  match as, vs, r with
  | a :: as, v :: vs, ⟨r1, r2⟩ =>
    refine ⟨v, vs, rfl, G, as, _, l.set r1 i, r2, by simpa using e, fun σ' l' w => k σ' l' fun us hu => ?_⟩
    rw [w us fun j hj => hu j (List.mem_cons_of_mem _ hj)]
    exact wipe_set (hu i List.mem_cons_self)
  | [], _, _ => cases e
theorem dg_tup {k : Nat} (hc : X.calm = true) (h : DGs X ts is) (hn : (assignEach ts X.env).length = is.length := by rfl) (hst : (assignEach ts X.env).findIdx? (·.1) = none := by rfl) :
    DG X (.Tuple ts k pos) is (fun a ρ ρ' => ∃ ds, a = aT ds ∧ ds.length = is.length ∧ ρ' = setAll ρ is (ds.map .d)) :=
  pg_weak (pg_tup hc h hn hst) fun v σ H Q ⟨G, a, ρ, ρ', l, r, e, t, kk⟩ => by
    obtain ⟨ds, rfl, hl, rfl⟩ := t
    have r : Dp X.K G v (.tuple ds) := r
    cases r with
    | tup hs ha =>
      have ra := repAll_dp.mpr ha
      refine ⟨_, _, rfl, sqT_same e hs, by rw [ra.length, List.length_map, hl], G, _, ρ, l, ra, by rw [List.length_map, hl], kk⟩
end

section
variable {X : Cx} {Ff : Addr → Prop} {S : Sta} {D : AE} {tg e : Expr} {is : List Nat} {T : Ab → List (Option Ab) → List (Option Ab) → Prop} {R : Ab → Prop} {pos : Pos}
/-- target = e, the target of any form -/
theorem ds_asg (h : DE X S.rs S.M S.ρ e R) (hg : DG X tg is T) (k : ∀ a, R a → ∃ ρ', T a S.ρ ρ' ∧ D.nx ⟨S.rs, S.M, ρ'⟩) (hs : swapsWithSole [tg] e pos.line X.env = pure false := by rfl) (hw : swappedStores [tg] e X.env = pure none := by rfl)
    (h1 : (assignEach [tg] X.env).map (·.2) = [assign tg X.env] := by rfl) : DS X Ff S (.Assign [tg] e pos) D := fun G0 H0 =>
  ps_weak (ps_asg h hg hs hw h1) fun De σ H ⟨G, s, n, _⟩ => ⟨G, s.loc, s.ok, fun v a G' H' r rep nn => by
    obtain ⟨ρ', t, q⟩ := k a r
    have s' := s.nxt nn
    exact ⟨G', a, S.ρ, ρ', s'.loc, rep, s'.ok.gh, t, fun σ' l' _ => n _ σ' G' H' q ⟨l', s'.ok, s'.lie, s'.own, s'.fr⟩⟩⟩
end

/-! ### what is walked -/
def ItOk (K : PySem.W.Frag) (G : Hp) (J : It) (n : Nat) (item : Nat → Ab → Prop) : Prop := ∀ rs M G1 H1, Same G G1 → Ok K rs M G1 H1 →
  (∀ i, i < n → J.go i H1 ∧ ∀ x H2, J.yld i H1 x H2 → ∃ a G2, item i a ∧ Rep K G2 x a ∧ Nxt rs G1 H1 G2 H2) ∧ J.stop n H1
def tDI (K : PySem.W.Frag) (rs : Rs) (M : Mem) (ρ : List (Option Ab)) (RI : Nat → (Nat → Ab → Prop) → Prop) : TI := fun σ H R => ∃ G, Loc K G σ ρ ∧ Ok K rs M G H ∧ ∀ J n item G' H', RI n item → ItOk K G' J n item → Nxt rs G H G' H' → R J H'
abbrev DI (X : Cx) (rs : Rs) (M : Mem) (ρ : List (Option Ab)) (tg iter : Expr) (RI : Nat → (Nat → Ab → Prop) → Prop) : Prop := PI X tg iter (tDI X.K rs M ρ RI)
section
variable {X : Cx} {rs : Rs} {M : Mem} {ρ : List (Option Ab)} {tg e iter : Expr} {R : Ab → Prop} {RI : Nat → (Nat → Ab → Prop) → Prop} {pos p : Pos} {es : List Expr}
theorem pi_weak {w w' : TI} (h : PI X tg iter w) (k : ∀ σ H R, w' σ H R → w σ H R) : PI X tg iter w' := ⟨fun pins s σ H R I q => h.run pins s σ H R I (k σ H R q)⟩
theorem itOk_list {K : PySem.W.Frag} {G : Hp} {a : Addr} {xs : List V} {as : List Ab} (h : SqL K G a xs) (r : RepAll K G xs as) : ItOk K G (Itl K a) as.length (fun i y => as[i]? = some y) := fun rs M G1 H1 e ok => by
  have h1 : SqL K H1 a xs := sqL_same (e.trans ok.gh) h
  refine ⟨fun i hi => ?_, xs, h1, by rw [r.length]; exact Nat.le_refl _⟩
  have hx : xs[i]? = some (xs[i]'(by rw [r.length]; exact hi)) := List.getElem?_eq_getElem _
  refine ⟨⟨xs, _, h1, hx⟩, fun x H2 y => ?_⟩
  obtain ⟨rfl, y⟩ := y
  obtain ⟨b, hb, rb⟩ := r.get' (y xs h1)
  exact ⟨b, G1, hb, rb.same e, Nxt.rfl ok⟩
theorem itOk_tup {K : PySem.W.Frag} {G : Hp} {a : Addr} {xs : List V} {as : List Ab} (h : SqT K G a xs) (r : RepAll K G xs as) : ItOk K G (Itt K a) as.length (fun i y => as[i]? = some y) := fun rs M G1 H1 e ok => by
  have h1 : SqT K H1 a xs := sqT_same (e.trans ok.gh) h
  refine ⟨fun i hi => ?_, xs, h1, by rw [r.length]; exact Nat.le_refl _⟩
  have hx : xs[i]? = some (xs[i]'(by rw [r.length]; exact hi)) := List.getElem?_eq_getElem _
  refine ⟨⟨xs, _, h1, hx⟩, fun x H2 y => ?_⟩
  obtain ⟨rfl, y⟩ := y
  obtain ⟨b, hb, rb⟩ := r.get' (y xs h1)
  exact ⟨b, G1, hb, rb.same e, Nxt.rfl ok⟩
theorem itOk_rng {K : PySem.W.Frag} {G : Hp} (lo : Int) (n : Nat) : ItOk K G (Itr lo n) n (fun i y => y = aI (lo + i)) := fun rs M G1 H1 e ok => by
  refine ⟨fun i hi => ⟨hi, fun x H2 y => ?_⟩, Nat.le_refl _⟩
  obtain ⟨rfl, rfl⟩ := y
  exact ⟨_, G1, rfl, Dp.int _, Nxt.rfl ok⟩
abbrev AtD (ds : List PyData) : Nat → Ab → Prop := fun i y => (ds.map Ab.d)[i]? = some y
theorem di_list (h : DE X rs M ρ e R) (w : ∀ y, R y → ∃ ds, y = aL ds ∧ RI ds.length (AtD ds)) : DI X rs M ρ tg e RI :=
  pi_weak (pi_list h) fun σ H T ⟨G, l, ok, k⟩ => ⟨G, l, ok, fun v y G1 H1 ry rep n => by
    obtain ⟨ds, rfl, ri⟩ := w y ry
    have rep : Dp X.K G1 v (.list ds) := rep
    cases rep with
    | lst hs ha =>
      have it := itOk_list (.inl (.inl hs)) (repAll_dp.mpr ha)
      rw [List.length_map] at it
      exact ⟨_, rfl, ⟨_, .inl (.inl (n.gh _ _ hs))⟩, k _ _ _ G1 H1 ri it n⟩⟩
/-- the script, walked or read -/
abbrev aScr (K : PySem.W.Frag) (ns : List Int) : Ab := .raw fun v H => ∃ a, v = .ref a ∧ SqL K H a (ns.map V.int)
theorem di_tup (h : DE X rs M ρ e R) (w : ∀ y, R y → ∃ ds, y = aT ds ∧ RI ds.length (AtD ds)) : DI X rs M ρ tg e RI :=
  pi_weak (pi_tup h) fun σ H T ⟨G, l, ok, k⟩ => ⟨G, l, ok, fun v y G1 H1 ry rep n => by
    obtain ⟨ds, rfl, ri⟩ := w y ry
    have rep : Dp X.K G1 v (.tuple ds) := rep
    cases rep with
    | tup hs ha =>
      have it := itOk_tup hs (repAll_dp.mpr ha)
      rw [List.length_map] at it
      exact ⟨_, rfl, ⟨_, sqT_same n.gh hs⟩, k _ _ _ G1 H1 ri it n⟩⟩
abbrev AtR (lo : Int) : Nat → Ab → Prop := fun i y => y = aI (lo + (i : Int))
theorem di_range1 {T : List Ab → Prop} (hg : Gl X "range") (hm : X.mg "range" = none) (ha : DA X rs M ρ [e] T) (w : ∀ as, T as → ∃ n : Int, as = [aI n] ∧ -(2 ^ 62) ≤ n ∧ n < 2 ^ 62 ∧ RI n.toNat (AtR 0)) (hs : starEach [e] X.env = [(false, eval e X.env)] := by rfl) :
    DI X rs M ρ tg (.Call (.Name "range" p) [e] [] pos) RI :=
  pi_weak (pi_range1 hg hm ha hs) fun σ H T ⟨G, l, ok, k⟩ => ⟨G, l, ok, fun vs as G1 H1 ry rep n => by
    obtain ⟨m, rfl, h1, h2, ri⟩ := w as ry
    match vs, rep with
    | [v], ⟨r, _⟩ =>
      have r : Dp X.K G1 v (.int m) := r
      cases r
      exact ⟨m, rfl, h1, h2, k _ _ _ G1 H1 ri (itOk_rng 0 _) n⟩⟩
theorem di_range2 {f : Expr} {T : List Ab → Prop} (hg : Gl X "range") (hm : X.mg "range" = none) (ha : DA X rs M ρ [e, f] T)
    (w : ∀ as, T as → ∃ i j : Int, as = [aI i, aI j] ∧ (-(2 ^ 62) ≤ i ∧ i < 2 ^ 62 ∧ -(2 ^ 62) ≤ j ∧ j < 2 ^ 62) ∧ RI (j - i).toNat (AtR i)) (hs : starEach [e, f] X.env = [(false, eval e X.env), (false, eval f X.env)] := by rfl) (hs2 : starEach [f] X.env = [(false, eval f X.env)] := by rfl) :
    DI X rs M ρ tg (.Call (.Name "range" p) [e, f] [] pos) RI :=
  pi_weak (pi_range2 hg hm ha hs hs2) fun σ H T ⟨G, l, ok, k⟩ => ⟨G, l, ok, fun vs as G1 H1 ry rep n => by
    obtain ⟨i, j, rfl, h1, ri⟩ := w as ry
    match vs, rep with
    | [v, u], ⟨r, r2, _⟩ =>
      have r : Dp X.K G1 v (.int i) := r
      cases r
      have r2 : Dp X.K G1 u (.int j) := r2
      cases r2
      exact ⟨i, j, rfl, h1, k _ _ _ G1 H1 ri (itOk_rng i _) n⟩⟩
/-- zip of two tuples or of two lists -/
abbrev AtZ (ds es : List PyData) : Nat → Ab → Prop := fun i y => ∃ d e, ds[i]? = some d ∧ es[i]? = some e ∧ y = aT [d, e]
theorem pair_nxt {K : PySem.W.Frag} {rs : Rs} {M : Mem} {G H : Hp} {T : Addr} {x y : V} {d e : PyData} (ok : Ok K rs M G H) (hT : H T = none) (rx : Dp K G x d) (ry : Dp K G y e) :
    Rep K (upd G T (.tup [x, y])) (.ref T) (aT [d, e]) ∧ Nxt rs G H (upd G T (.tup [x, y])) (upd H T (.tup [x, y])) := by
  have n := Nxt.new (o := .tup [x, y]) ok hT
  exact ⟨Dp.tup (.inl (.inl upd_same)) (.cons (dp_same n.g _ _ rx) (.cons (dp_same n.g _ _ ry) .nil)), n⟩
theorem getD_some {α : Type} {xs : List α} {i : Nat} (h : i < xs.length) : ∃ x, xs[i]? = some x := ⟨xs[i], List.getElem?_eq_getElem h⟩
theorem itOk_zipT {K : PySem.W.Frag} {G : Hp} {a b : Addr} {xs ys : List V} {ds es : List PyData} (hx : SqT K G a xs) (rx : DpAll K G xs ds) (hy : SqT K G b ys) (ry : DpAll K G ys es) : ItOk K G (ItzT K a b) (min ds.length es.length) (AtZ ds es) := fun rs M G1 H1 e ok => by
  have h1 : SqT K H1 a xs := sqT_same (e.trans ok.gh) hx
  have h2 : SqT K H1 b ys := sqT_same (e.trans ok.gh) hy
  have rx' := repAll_dp.mpr rx
  have ry' := repAll_dp.mpr ry
  have lx : xs.length = ds.length := by rw [rx'.length, List.length_map]
  have ly : ys.length = es.length := by rw [ry'.length, List.length_map]
  refine ⟨fun i hi => ?_, xs, ys, h1, h2, by omega⟩
  obtain ⟨x, ex⟩ := getD_some (xs := xs) (i := i) (by omega)
  obtain ⟨y, ey⟩ := getD_some (xs := ys) (i := i) (by omega)
  refine ⟨⟨xs, ys, x, y, h1, h2, ex, ey⟩, fun v H2 yl => ?_⟩
  obtain ⟨T, x', y', rfl, hT, rfl, f1, f2⟩ := yl
  obtain ⟨d', hd, rd⟩ := rx'.get' (f1 xs h1)
  obtain ⟨e', he, re⟩ := ry'.get' (f2 ys h2)
  rw [List.getElem?_map] at hd he
  cases qd : ds[i]? with
  | none =>
    rw [qd] at hd
    cases hd
  | some d =>
    cases qe : es[i]? with
    | none =>
      rw [qe] at he
      cases he
    | some e2 =>
      rw [qd] at hd
      rw [qe] at he
      have hd : Ab.d d = d' := Option.some.inj hd
      have he : Ab.d e2 = e' := Option.some.inj he
      subst hd he
      obtain ⟨r, n⟩ := pair_nxt ok hT (dp_same e _ _ rd) (dp_same e _ _ re)
      exact ⟨_, _, ⟨d, e2, qd, qe, rfl⟩, r, n⟩
theorem itOk_zipL {K : PySem.W.Frag} {G : Hp} {a b : Addr} {xs ys : List V} {ds es : List PyData} (hx : SqL K G a xs) (rx : DpAll K G xs ds) (hy : SqL K G b ys) (ry : DpAll K G ys es) : ItOk K G (Itz K a b) (min ds.length es.length) (AtZ ds es) := fun rs M G1 H1 e ok => by
  have h1 : SqL K H1 a xs := sqL_same (e.trans ok.gh) hx
  have h2 : SqL K H1 b ys := sqL_same (e.trans ok.gh) hy
  have rx' := repAll_dp.mpr rx
  have ry' := repAll_dp.mpr ry
  have lx : xs.length = ds.length := by rw [rx'.length, List.length_map]
  have ly : ys.length = es.length := by rw [ry'.length, List.length_map]
  refine ⟨fun i hi => ?_, xs, ys, h1, h2, by omega⟩
  obtain ⟨x, ex⟩ := getD_some (xs := xs) (i := i) (by omega)
  obtain ⟨y, ey⟩ := getD_some (xs := ys) (i := i) (by omega)
  refine ⟨⟨xs, ys, x, y, h1, h2, ex, ey⟩, fun v H2 yl => ?_⟩
  obtain ⟨T, x', y', rfl, hT, rfl, f1, f2⟩ := yl
  obtain ⟨d', hd, rd⟩ := rx'.get' (f1 xs h1)
  obtain ⟨e', he, re⟩ := ry'.get' (f2 ys h2)
  rw [List.getElem?_map] at hd he
  cases qd : ds[i]? with
  | none =>
    rw [qd] at hd
    cases hd
  | some d =>
    cases qe : es[i]? with
    | none =>
      rw [qe] at he
      cases he
    | some e2 =>
      rw [qd] at hd
      rw [qe] at he
      have hd : Ab.d d = d' := Option.some.inj hd
      have he : Ab.d e2 = e' := Option.some.inj he
      subst hd he
      obtain ⟨r, n⟩ := pair_nxt ok hT (dp_same e _ _ rd) (dp_same e _ _ re)
      exact ⟨_, _, ⟨d, e2, qd, qe, rfl⟩, r, n⟩
theorem di_zip {f : Expr} {elts : List Expr} {kk : Nat} {tpos : Pos} {T : List Ab → Prop} (hg : Gl X "zip") (hm : X.mg "zip" = none) (ha : DA X rs M ρ [e, f] T) (w : ∀ as, T as → ∃ ds es, (as = [aT ds, aT es] ∨ as = [aL ds, aL es]) ∧ RI (min ds.length es.length) (AtZ ds es))
    (hs : starEach [e, f] X.env = (false, eval e X.env) :: starEach [f] X.env := by rfl) (hpl : (backTo pos (starEach [f] X.env)).any (·.1) = false := by rfl) : DI X rs M ρ (.Tuple elts kk tpos) (.Call (.Name "zip" p) [e, f] [] pos) RI :=
  pi_weak (pi_zipA hg hm ha hs hpl) fun σ H T ⟨G, l, ok, k⟩ => ⟨G, l, ok, fun vs as G1 H1 ry rep n => by
    obtain ⟨ds, es, h, ri⟩ := w as ry
    rcases h with rfl | rfl
    · match vs, rep with
      | [v, u], ⟨r, r2, _⟩ =>
        have r : Dp X.K G1 v (.tuple ds) := r
        have r2 : Dp X.K G1 u (.tuple es) := r2
        cases r with
        | tup hx rx =>
          cases r2 with
          | tup hy ry => exact ⟨_, _, _, _, rfl, .inr ⟨sqT_same n.gh hx, sqT_same n.gh hy, k _ _ _ G1 H1 ri (itOk_zipT hx rx hy ry) n⟩⟩
    · match vs, rep with
      | [v, u], ⟨r, r2, _⟩ =>
        have r : Dp X.K G1 v (.list ds) := r
        have r2 : Dp X.K G1 u (.list es) := r2
        cases r with
        | lst hx rx =>
          cases r2 with
          | lst hy ry => exact ⟨_, _, _, _, rfl, .inl ⟨.inl (.inl (n.gh _ _ hx)), .inl (.inl (n.gh _ _ hy)), k _ _ _ G1 H1 ri (itOk_zipL (.inl (.inl hx)) rx (.inl (.inl hy)) ry) n⟩⟩⟩
/-- enumerate of a list -/
abbrev AtE (ds : List PyData) : Nat → Ab → Prop := fun i y => ∃ d, ds[i]? = some d ∧ y = aT [.int (i : Int), d]
theorem itOk_enum {K : PySem.W.Frag} {G : Hp} {a : Addr} {xs : List V} {ds : List PyData} (hx : SqL K G a xs) (rx : DpAll K G xs ds) : ItOk K G (Ite K a) ds.length (AtE ds) := fun rs M G1 H1 e ok => by
  have h1 : SqL K H1 a xs := sqL_same (e.trans ok.gh) hx
  have rx' := repAll_dp.mpr rx
  have lx : xs.length = ds.length := by rw [rx'.length, List.length_map]
  refine ⟨fun i hi => ?_, xs, h1, by omega⟩
  obtain ⟨x, ex⟩ := getD_some (xs := xs) (i := i) (by omega)
  refine ⟨⟨xs, x, h1, ex⟩, fun v H2 yl => ?_⟩
  obtain ⟨T, x', rfl, hT, rfl, f1⟩ := yl
  obtain ⟨d', hd, rd⟩ := rx'.get' (f1 xs h1)
  rw [List.getElem?_map] at hd
  cases qd : ds[i]? with
  | none =>
    rw [qd] at hd
    cases hd
  | some d =>
    rw [qd] at hd
    have hd : Ab.d d = d' := Option.some.inj hd
    subst hd
    obtain ⟨r, n⟩ := pair_nxt (x := .int (i : Int)) (d := .int (i : Int)) ok hT (Dp.int _) (dp_same e _ _ rd)
    exact ⟨_, _, ⟨d, qd, rfl⟩, r, n⟩
theorem di_enumL {elts : List Expr} {kk : Nat} {tpos : Pos} {T : List Ab → Prop} (hg : Gl X "enumerate") (hm : X.mg "enumerate" = none) (ha : DA X rs M ρ [e] T) (w : ∀ as, T as → ∃ ds, as = [aL ds] ∧ RI ds.length (AtE ds)) (hs : starEach [e] X.env = [(false, eval e X.env)] := by rfl) :
    DI X rs M ρ (.Tuple elts kk tpos) (.Call (.Name "enumerate" p) [e] [] pos) RI :=
  pi_weak (pi_enum hg hm ha hs) fun σ H T ⟨G, l, ok, k⟩ => ⟨G, l, ok, fun vs as G1 H1 ry rep n => by
    obtain ⟨ds, rfl, ri⟩ := w as ry
    match vs, rep with
    | [v], ⟨r, _⟩ =>
      have r : Dp X.K G1 v (.list ds) := r
      cases r with
      | lst hx rx => exact ⟨_, _, rfl, .inl (.inl (n.gh _ _ hx)), k _ _ _ G1 H1 ri (itOk_enum (.inl (.inl hx)) rx) n⟩⟩
end

/-! ### for -/
section
variable {K : PySem.W.Frag} {Ff : Addr → Prop} {G0 H0 G1 H1 G H : Hp} {S : Sta} {σ : L2.St}
theorem Lie.up (l : Lie Ff G0 H0 G H) (a : Same G0 G1) (b : Same G1 G) : Lie Ff G1 H0 G H := ⟨b, l.h, l.al, fun c o e => (l.nw c o e).imp (fun z => a _ _ z) id⟩
theorem Lie.down (l : Lie Ff G1 H0 G H) (l1 : Lie Ff G0 H0 G1 H1) : Lie Ff G0 H0 G H := ⟨l1.g.trans l.g, l.h, l.al, fun c o e => (l.nw c o e).elim (fun z => l1.nw c o z) Or.inr⟩
theorem Stand.up (s : Stand K Ff G0 H0 S σ G H) (a : Same G0 G1) (b : Same G1 G) : Stand K Ff G1 H0 S σ G H := ⟨s.loc, s.ok, s.lie.up a b, s.own, s.fr⟩
theorem Stand.down (s : Stand K Ff G1 H0 S σ G H) (l1 : Lie Ff G0 H0 G1 H1) : Stand K Ff G0 H0 S σ G H := ⟨s.loc, s.ok, s.lie.down l1, s.own, s.fr⟩
end
section
variable {X : Cx} {Ff : Addr → Prop} {S : Sta} {D : AE} {tg iter : Expr} {body : List Stmt} {pos : Pos} {is : List Nat} {T : Ab → List (Option Ab) → List (Option Ab) → Prop} {RI : Nat → (Nat → Ab → Prop) → Prop}
/-- Inv n item i S: between two turns; what holds behind a break is what is to hold behind the loop -/
theorem ds_for (Inv : Nat → (Nat → Ab → Prop) → Nat → Sta → Prop) (hi : DI X S.rs S.M S.ρ tg iter RI) (hg : DG X tg is T) (h0 : ∀ n item, RI n item → Inv n item 0 S)
    (hs : ∀ n item i S' a, RI n item → i < n → Inv n item i S' → item i a → ∃ ρ', T a S'.ρ ρ' ∧ DSs X Ff ⟨S'.rs, S'.M, ρ'⟩ body ⟨Inv n item (i + 1), D.rt, D.nx, Inv n item (i + 1)⟩) (hd : ∀ n item S', RI n item → Inv n item n S' → D.nx S')
    (hp : PassesOwn (model X.prog X.w) X.A X.env X.xe) (hc : X.calm = true) (hf : ∀ x, foldedSetIterable iter X.env x = pure x := by intro _; rfl) : DS X Ff S (.For tg iter body [] pos) D := fun G0 H0 => by
  have hb : PSs X body (fun De σ H => ∃ S' D' G0, DSs X Ff S' body D' ∧ tS X.K Ff G0 H0 S' D' De σ H) := ⟨fun pins s σ H De I ⟨S', D', G0, hS, q⟩ => (hS G0 H0).run pins s σ H De I q⟩
  refine ps_weak (ps_for hp hc hi hg hb hf) fun De σ H ⟨G, s, nx, rt, bk, ct⟩ => ⟨G, s.loc, s.ok, fun J n item G1 H1 ri it n1 => ?_⟩
  have s1 := s.nxt n1
  refine ⟨fun i m σ H => m = n - i ∧ i ≤ n ∧ ∃ S' G2, Inv n item i S' ∧ Stand X.K Ff G1 H0 S' σ G2 H, ⟨n, rfl, Nat.zero_le _, S, G1, h0 n item ri, s1.up s1.lie.g (Same.refl _)⟩, fun i m σ2 H2 ⟨em, hi, S', G2, inv, st⟩ => ?_⟩
  obtain ⟨go, stop⟩ := it S'.rs S'.M G2 H2 st.lie.g st.ok
  by_cases hlt : i < n
  · obtain ⟨g, yl⟩ := go i hlt
    refine .inr ⟨g, fun σ' H' => ∃ S' G2, Inv n item (i + 1) S' ∧ Stand X.K Ff G1 H0 S' σ' G2 H', fun σ' H' ⟨S3, G3, inv3, st3⟩ => ⟨n - (i + 1), by omega, rfl, hlt, S3, G3, inv3, st3⟩, fun x H3 y => ?_⟩
    obtain ⟨a, G3, ia, rep, n3⟩ := yl x H3 y
    obtain ⟨ρ', ht, hbody⟩ := hs n item i S' a ri hlt inv ia
    have st3 := st.nxt n3
    exact ⟨G3, a, S'.ρ, ρ', st3.loc, rep, st3.ok.gh, ht, fun σ' l' _ => ⟨⟨S'.rs, S'.M, ρ'⟩, _, G1, hbody, G3, ⟨l', st3.ok, st3.lie, st3.own, st3.fr⟩,
      fun S4 σ4 G4 H4 q s4 => ⟨S4, G4, q, s4⟩, fun rs M v b G4 H4 q rep4 ok4 l4 ow4 => rt rs M v b G4 H4 q rep4 ok4 (l4.down s1.lie) ow4, fun S4 σ4 G4 H4 q s4 => nx S4 σ4 G4 H4 q (s4.down s1.lie), fun S4 σ4 G4 H4 q s4 => ⟨S4, G4, q, s4⟩⟩⟩
  · have e1 : i = n := by omega
    subst e1
    exact .inl ⟨stop, nx S' σ2 G2 H2 (hd _ item S' ri inv) (st.down s1.lie)⟩
/-- Inv m S: m falls at each turn -/
theorem ds_while {c : Expr} (Inv : Nat → Sta → Prop) (m0 : Nat) (h0 : Inv m0 S) (hs : ∀ m S', Inv m S' → ∃ T : Bool → Prop, DT X S'.rs S'.M S'.ρ c T ∧
      (T true → DSs X Ff S' body ⟨fun S2 => ∃ m', m' < m ∧ Inv m' S2, D.rt, D.nx, fun S2 => ∃ m', m' < m ∧ Inv m' S2⟩) ∧ (T false → D.nx S')) (hp : PassesOwn (model X.prog X.w) X.A X.env X.xe) : DS X Ff S (.While c body [] pos) D := fun G0 H0 => by
  have hc : PT X c (fun σ H Q => ∃ (S' : Sta) (T : Bool → Prop), DT X S'.rs S'.M S'.ρ c T ∧ tDT X.K S'.rs S'.M S'.ρ T σ H Q) := ⟨fun pins s σ H Q I ⟨S', T, h, q⟩ => h.run pins s σ H Q I q⟩
  have hb : PSs X body (fun De σ H => ∃ S' D', DSs X Ff S' body D' ∧ tS X.K Ff G0 H0 S' D' De σ H) := ⟨fun pins s σ H De I ⟨S', D', hS, q⟩ => (hS G0 H0).run pins s σ H De I q⟩
  refine ps_weak (ps_while hp hc hb) fun De σ H ⟨G, s, nx, rt, bk, ct⟩ => ⟨fun m σ H => ∃ S' G, Inv m S' ∧ Stand X.K Ff G0 H0 S' σ G H, ⟨m0, S, G, h0, s⟩, fun m σ2 H2 ⟨S', G2, inv, st⟩ => ?_⟩
  obtain ⟨T, hT, h1, h2⟩ := hs m S' inv
  refine ⟨S', T, hT, G2, st.loc, st.ok, fun b G3 H3 hb n3 => ?_⟩
  have st3 := st.nxt n3
  cases b with
  | true =>
    refine iteT ⟨fun σ' H' => ∃ S4 G4 m', m' < m ∧ Inv m' S4 ∧ Stand X.K Ff G0 H0 S4 σ' G4 H', fun σ' H' ⟨S4, G4, m', hm, inv4, st4⟩ => ⟨m', hm, S4, G4, inv4, st4⟩, S', _, h1 hb, G3, st3, ?_, rt, nx, ?_⟩
    · exact fun S4 σ4 G4 H4 ⟨m', hm, q⟩ s4 => ⟨S4, G4, m', hm, q, s4⟩
    · exact fun S4 σ4 G4 H4 ⟨m', hm, q⟩ s4 => ⟨S4, G4, m', hm, q, s4⟩
  | false => exact iteF (nx S' σ2 G3 H3 (h2 hb) st3)
end

/-! ### comprehensions -/
section
variable {X : Cx} {rs : Rs} {M : Mem} {ρ : List (Option Ab)} {tg iter elt : Expr} {ifs : List Expr} {scope : Scope} {own : List (Str × Nat)} {pos : Pos} {is : List Nat} {T : Ab → List (Option Ab) → List (Option Ab) → Prop} {RI : Nat → (Nat → Ab → Prop) → Prop} {U : List Ab → Prop}
abbrev AllBlk (X : Cx) (scope : Scope) (P : Cx → Prop) : Prop := ∀ (s : Shared) (H : Hp) (C : Addr) (cl : List (Str × Addr)) (fp : List Addr), P (X.blk s H scope (compEnvC scope cl C X.env) fp)
/-- a clause's tests -/
abbrev DTs (X : Cx) (rs : Rs) (M : Mem) (ρ : List (Option Ab)) (ifs : List Expr) (R : Bool → Prop) : Prop := PTs X ifs (tDT X.K rs M ρ R)
theorem dts_nil : DTs X rs M ρ [] (fun b => b = true) := ⟨fun pins s σ H Q I ⟨G, l, ok, k⟩ => pts_nil.run pins s σ H Q I (k true G H rfl (Nxt.rfl ok))⟩
theorem dts_one {c : Expr} {R : Bool → Prop} (h : DT X rs M ρ c R) : DTs X rs M ρ [c] R := pts_one h
/-- the reading of a comprehension: Acc n item i acc between two turns -/
theorem lc_read (Acc : Nat → (Nat → Ab → Prop) → Nat → List Ab → Prop) (h0 : ∀ n item, RI n item → Acc n item 0 [])
    (hs : ∀ n item i acc a, RI n item → i < n → Acc n item i acc → item i a → acc.length ≤ 100000 ∧ ∃ ρ' B, T a (wipeA ρ (own.map (·.2))) ρ' ∧ AllBlk X scope (fun Y => DTs Y rs M ρ' ifs B) ∧
      (B true → AllBlk X scope (fun Y => DE Y rs M ρ' elt (fun z => Acc n item (i + 1) (acc ++ [z])))) ∧ (B false → Acc n item (i + 1) acc)) (hd : ∀ n item acc, RI n item → Acc n item n acc → U acc) (his : ∀ i ∈ is, i ∈ own.map (·.2)) {σ : L2.St} {H : Hp} {Q : VK}
    (h : tDN X.K rs M ρ U σ H Q) :
    tLc (tDI X.K rs M ρ RI) (tT X.K is T) (fun σ H Q => ∃ ρ' B, AllBlk X scope (fun Y => DTs Y rs M ρ' ifs B) ∧ tDT X.K rs M ρ' B σ H Q) (fun σ H Q => ∃ ρ' R, AllBlk X scope (fun Y => DE Y rs M ρ' elt R) ∧ tD X.K rs M ρ' R σ H Q) (own.map (·.2)) σ H Q := by
  obtain ⟨G, l, ok, k⟩ := h
  refine ⟨G, l, ok, fun J n item G1 H1 ri it n1 p hp => ?_⟩
  have ok1 := ok.nxt n1
  have hp0 := fresh_of ok n1 hp
  have nF : ∀ {H}, rs.I H → H p = none → ¬ rs.F p := fun {H'} i e f => by
    obtain ⟨o, z⟩ := rs.has _ _ i f
    rw [e] at z
    cases z
  have nFp : ¬ rs.F p := nF ok1.i hp
  -- between two turns
  refine ⟨fun i m H => m = n - i ∧ i ≤ n ∧ ∃ acc vs G2, Acc n item i acc ∧ RepAll X.K G2 vs acc ∧ H p = some (.lst vs) ∧ G2 p = none ∧ Nxt rs G1 H1 G2 H, ⟨n, rfl, Nat.zero_le _, [], [], G1, h0 n item ri, trivial, upd_same, ok1.gnone hp, Nxt.newM ok1 hp⟩, fun i m H2 ⟨em, hi, acc, vs, G2, ha, reps, e2, g2, n2⟩ => ?_⟩
  have ok2 := ok1.nxt n2
  obtain ⟨go, stop⟩ := it rs M G2 H2 n2.g ok2
  by_cases hlt : i < n
  · obtain ⟨g, yl⟩ := go i hlt
    refine .inr ⟨g, fun H => ∃ acc vs G2, Acc n item (i + 1) acc ∧ RepAll X.K G2 vs acc ∧ H p = some (.lst vs) ∧ G2 p = none ∧ Nxt rs G1 H1 G2 H, fun H' q => ⟨n - (i + 1), by omega, rfl, hlt, q⟩, fun x H3 y => ?_⟩
    obtain ⟨a, G3, ia, rep, n3⟩ := yl x H3 y
    obtain ⟨hl, ρ', B, ht, hB, hE, hN⟩ := hs n item i acc a ri hlt ha ia
    have ok3 := ok2.nxt n3
    refine ⟨G3, a, _, ρ', (l.wipe _).same (n1.g.trans (n2.g.trans n3.g)), rep, ok3.gh, ht, fun σ' l' w => ⟨?_, ρ', B, hB, G3, l', ok3, fun b G4 H4 hb n4 => ?_⟩⟩
    · rw [w _ his]
      have idem : ∀ vs : List Nat, ∀ us : List Nat, (∀ v ∈ vs, v ∈ us) → L2.wipe (L2.wipe σ vs) us = L2.wipe σ us := by
        intro vs
        induction vs with
        | nil => intro us _; rfl
        | cons v vs ih =>
          intro us hu
          show L2.wipe ((L2.wipe σ vs).set v none) us = _
          rw [wipe_set (hu v List.mem_cons_self)]
          exact ih us fun z hz => hu z (List.mem_cons_of_mem _ hz)
      exact idem _ _ fun _ h => h
    · have n34 := n3.trans n4 ok2
      have ok4 := ok3.nxt n4
      have gp : ∀ {G' H'}, Nxt rs G2 H2 G' H' → G' p = none := fun {G' H'} nn => by
        cases q : G' p with
        | none => rfl
        | some o =>
          rcases nn.nw p o q with z | z
          · rw [g2] at z
            cases z
          · rw [e2] at z
            cases z
      cases b with
      | false => exact iteF ⟨acc, vs, G4, hN hb, reps.same n34.g, n34.h _ _ e2 nFp, gp n34, n2.trans n34 ok1⟩
      | true =>
        refine iteT ⟨ρ', _, hE hb, G4, l'.same n4.g, ok4, fun v z G5 H5 hz rep5 n5 => ?_⟩
        have n345 := n34.trans n5 ok2
        have e5 := n345.h _ _ e2 nFp
        refine ⟨vs, e5, by rw [reps.length]; exact lt_line hl, acc ++ [z], vs ++ [v], G5, hz, (reps.same n345.g).append ⟨rep5, trivial⟩, upd_same, gp n345, ?_⟩
        have n15 := n2.trans n345 ok1
        refine ⟨n15.g, fun b o e => ?_, fun b o e f => ?_, n15.nw, rs.st _ _ n15.i fun b o f e => ?_⟩
        · rw [upd_ne fun z => by rw [z, gp n345] at e; cases e]
          exact n15.gh _ _ e
        · rw [upd_ne (ne_of_none e hp)]
          exact n15.h _ _ e f
        · rw [upd_ne (show b ≠ p from fun z => nFp (show rs.F p from z ▸ f))]
          exact e
  · have e1 : i = n := by omega
    subst e1
    exact .inl ⟨stop, k p vs acc G2 H2 (hd _ item acc ri ha) reps e2 g2 hp0 (n1.trans n2 ok)⟩
theorem dn_lc (Acc : Nat → (Nat → Ab → Prop) → Nat → List Ab → Prop) (hi : DI X rs M ρ tg iter RI) (hc : X.calm = true) (hN : X.N.Nodup) (ok : BlkOk X.N X.env.scope scope own) (hg : AllBlk X scope (fun Y => DG Y tg is T)) (h0 : ∀ n item, RI n item → Acc n item 0 [])
    (hs : ∀ n item i acc a, RI n item → i < n → Acc n item i acc → item i a → acc.length ≤ 100000 ∧ ∃ ρ' B, T a (wipeA ρ (own.map (·.2))) ρ' ∧ AllBlk X scope (fun Y => DTs Y rs M ρ' ifs B) ∧
      (B true → AllBlk X scope (fun Y => DE Y rs M ρ' elt (fun z => Acc n item (i + 1) (acc ++ [z])))) ∧ (B false → Acc n item (i + 1) acc)) (hd : ∀ n item acc, RI n item → Acc n item n acc → U acc) (his : ∀ i ∈ is, i ∈ own.map (·.2))
    (hf : ∀ x, foldedSetIterable iter X.env x = pure x := by intro _; rfl) : DN X rs M ρ (.ListComp elt [⟨tg, iter, ifs, 0⟩] scope pos) U :=
  pe_weak (pe_lc hc hN hi ok (fun s H C cl fp => hg s H C cl fp) (tt := fun σ H Q => ∃ ρ' B, AllBlk X scope (fun Y => DTs Y rs M ρ' ifs B) ∧ tDT X.K rs M ρ' B σ H Q)
    (te := fun σ H Q => ∃ ρ' R, AllBlk X scope (fun Y => DE Y rs M ρ' elt R) ∧ tD X.K rs M ρ' R σ H Q) (fun s H C cl fp => ⟨fun pins s1 σ H1 Q I ⟨ρ', B, hB, q⟩ => (hB s H C cl fp).run pins s1 σ H1 Q I q⟩)
    (fun s H C cl fp => ⟨fun pins s1 σ H1 Q I ⟨ρ', R, hR, q⟩ => (hR s H C cl fp).run pins s1 σ H1 Q I q⟩) hf) fun σ H Q h => lc_read Acc h0 hs hd his h
end
section
variable {X : Cx} {Ff : Addr → Prop} {S : Sta} {D : AE} {tg iter elt : Expr} {ifs : List Expr} {scope : Scope} {own : List (Str × Nat)} {pos spos py : Pos} {is : List Nat} {T : Ab → List (Option Ab) → List (Option Ab) → Prop} {RI : Nat → (Nat → Ab → Prop) → Prop} {U : List Ab → Prop} {y : Str}
/-- y = [.. for ..] -/
theorem ds_setLcG {V' : V → Hp → Prop} (j : Nat) (Acc : Nat → (Nat → Ab → Prop) → Nat → List Ab → Prop) (hi : DI X S.rs S.M S.ρ tg iter RI) (hc : X.calm = true) (hN : X.N.Nodup) (ok : BlkOk X.N X.env.scope scope own) (hg : AllBlk X scope (fun Y => DG Y tg is T)) (h0 : ∀ n item, RI n item → Acc n item 0 [])
    (hs : ∀ n item i acc a, RI n item → i < n → Acc n item i acc → item i a → acc.length ≤ 100000 ∧ ∃ ρ' B, T a (wipeA S.ρ (own.map (·.2))) ρ' ∧ AllBlk X scope (fun Y => DTs Y S.rs S.M ρ' ifs B) ∧
      (B true → AllBlk X scope (fun Y => DE Y S.rs S.M ρ' elt (fun z => Acc n item (i + 1) (acc ++ [z])))) ∧ (B false → Acc n item (i + 1) acc)) (hd : ∀ n item acc, RI n item → Acc n item n acc → U acc) (his : ∀ i ∈ is, i ∈ own.map (·.2))
    (k : ∀ q as, U as → D.nx ⟨S.rs, ⟨q, true, .lst as⟩ :: S.M, S.ρ.set j (some (.at q))⟩)
    (hy : X.N[j]? = some y := by rfl) (hyl : X.env.scope.names.lookup y = some .local := by rfl) (hsw : swapsWith (.ListComp elt [⟨tg, iter, ifs, 0⟩] scope pos) (some (.Name y py)) spos.line X.env = pure true := by exact sw_true rfl rfl rfl (by decide +kernel))
    (hf : ∀ x, foldedSetIterable iter X.env x = pure x := by intro _; rfl) : DS X Ff S (.Assign [.Name y py] (.ListComp elt [⟨tg, iter, ifs, 0⟩] scope pos) spos) D := fun G0 H0 =>
  ps_weak (ps_setLc hc hN hy hyl hsw hi ok (fun s H C cl fp => hg s H C cl fp) (tt := fun σ H Q => ∃ ρ' B, AllBlk X scope (fun Y => DTs Y S.rs S.M ρ' ifs B) ∧ tDT X.K S.rs S.M ρ' B σ H Q)
    (te := fun σ H Q => ∃ ρ' R, AllBlk X scope (fun Y => DE Y S.rs S.M ρ' elt R) ∧ tD X.K S.rs S.M ρ' R σ H Q) (fun s H C cl fp => ⟨fun pins s1 σ H1 Q I ⟨ρ', B, hB, q⟩ => (hB s H C cl fp).run pins s1 σ H1 Q I q⟩)
    (fun s H C cl fp => ⟨fun pins s1 σ H1 Q I ⟨ρ', R, hR, q⟩ => (hR s H C cl fp).run pins s1 σ H1 Q I q⟩) hf) fun De σ H ⟨G, s, n, _⟩ => lc_read Acc h0 hs hd his ⟨G, s.loc, s.ok, fun q vs as G' H' t rep e1 g1 h0 nn => n _ _ G' H' (k q as t) ((s.push nn rep e1 g1 h0).set (a := .at q) rfl)⟩
/-- .. frozen at once -/
theorem ds_setLc {R : Ab → Prop} (j : Nat) (Acc : Nat → (Nat → Ab → Prop) → Nat → List Ab → Prop) (hi : DI X S.rs S.M S.ρ tg iter RI) (hc : X.calm = true) (hN : X.N.Nodup) (ok : BlkOk X.N X.env.scope scope own) (hg : AllBlk X scope (fun Y => DG Y tg is T)) (h0 : ∀ n item, RI n item → Acc n item 0 [])
    (hs : ∀ n item i acc a, RI n item → i < n → Acc n item i acc → item i a → acc.length ≤ 100000 ∧ ∃ ρ' B, T a (wipeA S.ρ (own.map (·.2))) ρ' ∧ AllBlk X scope (fun Y => DTs Y S.rs S.M ρ' ifs B) ∧
      (B true → AllBlk X scope (fun Y => DE Y S.rs S.M ρ' elt (fun z => Acc n item (i + 1) (acc ++ [z])))) ∧ (B false → Acc n item (i + 1) acc)) (hd : ∀ n item acc, RI n item → Acc n item n acc → ∃ ds, acc = ds.map .d ∧ R (aL ds)) (his : ∀ i ∈ is, i ∈ own.map (·.2))
    (k : ∀ a, R a → D.nx ⟨S.rs, S.M, S.ρ.set j (some a)⟩)
    (hy : X.N[j]? = some y := by rfl) (hyl : X.env.scope.names.lookup y = some .local := by rfl) (hsw : swapsWith (.ListComp elt [⟨tg, iter, ifs, 0⟩] scope pos) (some (.Name y py)) spos.line X.env = pure true := by exact sw_true rfl rfl rfl (by decide +kernel))
    (hf : ∀ x, foldedSetIterable iter X.env x = pure x := by intro _; rfl) : DS X Ff S (.Assign [.Name y py] (.ListComp elt [⟨tg, iter, ifs, 0⟩] scope pos) spos) D := fun G0 H0 =>
  ps_weak (ps_setLc hc hN hy hyl hsw hi ok (fun s H C cl fp => hg s H C cl fp) (tt := fun σ H Q => ∃ ρ' B, AllBlk X scope (fun Y => DTs Y S.rs S.M ρ' ifs B) ∧ tDT X.K S.rs S.M ρ' B σ H Q)
    (te := fun σ H Q => ∃ ρ' R, AllBlk X scope (fun Y => DE Y S.rs S.M ρ' elt R) ∧ tD X.K S.rs S.M ρ' R σ H Q) (fun s H C cl fp => ⟨fun pins s1 σ H1 Q I ⟨ρ', B, hB, q⟩ => (hB s H C cl fp).run pins s1 σ H1 Q I q⟩)
    (fun s H C cl fp => ⟨fun pins s1 σ H1 Q I ⟨ρ', R, hR, q⟩ => (hR s H C cl fp).run pins s1 σ H1 Q I q⟩) hf) fun De σ H ⟨G, s, n, _⟩ => lc_read (U := fun acc => ∃ ds, acc = ds.map .d ∧ R (aL ds)) Acc h0 hs hd his ⟨G, s.loc, s.ok, fun q vs as G' H' ⟨ds, e, r⟩ rep e1 g1 h0 nn => by
      subst e
      have n2 := nn.frz e1 h0 g1
      refine n _ _ _ H' (k _ r) ((s.nxt n2).set (a := aL ds) (Dp.lst upd_same (dpAll_same (fun b u e => ?_) _ _ (repAll_dp.mp rep))))
      rw [upd_ne (ne_of_none e g1)]
      exact e⟩
end

/-! ### defs -/
section
variable {P : Program} {w : World} {K : PySem.W.Frag} {mg : Str → Option Value} {base : Heap} {k : Nat} {f : Addr} {fd : FuncData} {ps N : List Str} {x qual : Str} {st : Stmt} {T : Rs → Mem → List Ab → (Ab → Prop) → Prop}
abbrev bodyCx (P : Program) (w : World) (K : PySem.W.Frag) (mg : Str → Option Value) (base : Heap) (N : List Str) (qual : Str) (st : Stmt) (f : Addr) (cdv : Value) (A : Around) (outer : List Env) (s : Shared) (H : Hp) (E : XK) : Cx := (cxOf CX0 P w K mg base N qual (defScope st) f cdv A outer s H E).nox
/-- a def by its body; the state is opened as one likes (a resource told in lists of our own) -/
theorem fn_goF (F : Fun K x qual st f fd) (Sc : FnScope N ps (defScope st)) (len : ∀ rs M as R, T rs M as R → as.length = ps.length)
    (body : ∀ (cdv : Value) (A : Around) (outer : List Env) (s : Shared) (H0 : Hp) (E : XK), Room k (A.deeper (envOfC qual (defScope st) s.heap.objs.size f cdv)) → A.guards = some [] → ∀ rs M as R, T rs M as R → (∀ e ∈ M, e.mu = false) → ∀ G H vs, RepAll K G vs as → Ok K rs M G H →
      ∃ rs1 M1, Ok K rs1 M1 G H ∧ (∀ e ∈ M1, e.mu = true → rs.F e.p) ∧ (∀ b, rs1.F b → rs.F b) ∧ DSs (bodyCx P w K mg base N qual st f cdv A outer s H0 E) rs.F ⟨rs1, M1, startA N as⟩ (defBody st)
        ⟨fun S => R aN ∧ ∀ G H, Ok K S.rs S.M G H → rs.I H, fun rs2 M2 a => R a ∧ ∀ G H, Ok K rs2 M2 G H → rs.I H, fun _ => False, fun _ => False⟩) : FnG P w K mg base CX0 (k + 1) f fd ps (Spec K T) := by
  refine fun_okG F Sc (fun vs H Q E ⟨rs, M, as, R, G, t, _, r, _⟩ => by rw [r.length]; exact len rs M as R t) fun cdv A outer s H vs Q E room gd ⟨rs, M, as, R, G, t, ro, reps, ok, kk⟩ => ?_
  obtain ⟨rs1, M1, ok1, own1, sub1, run⟩ := body cdv A outer s H E room gd rs M as R t ro G H vs reps ok
  refine ⟨_, (run G H).nox, G, ⟨Loc.starts reps, ok1, Lie.refl _ _ _, fun e he hm => .inr (own1 e he hm), fun b f => .inr (sub1 b f)⟩, fun S' σ' G' H' ⟨q, qi⟩ s' => ?_, fun rs2 M2 v a G' H' ⟨q, qi⟩ rep ok2 l2 _ => ?_, fun _ _ _ _ q => q.elim, fun _ _ _ _ q => q.elim⟩
  · exact kk .non aN G' H' q Dp.non ⟨s'.lie.g, s'.ok.gh, s'.lie.h, s'.lie.nw, qi _ _ s'.ok⟩
  · exact kk v a G' H' q rep ⟨l2.g, ok2.gh, l2.h, l2.nw, qi _ _ ok2⟩
/-- a def that only leaves what the resource lets it -/
theorem fn_go (F : Fun K x qual st f fd) (Sc : FnScope N ps (defScope st)) (len : ∀ rs M as R, T rs M as R → as.length = ps.length)
    (body : ∀ (cdv : Value) (A : Around) (outer : List Env) (s : Shared) (H0 : Hp) (E : XK), Room k (A.deeper (envOfC qual (defScope st) s.heap.objs.size f cdv)) → A.guards = some [] → ∀ rs M as R, T rs M as R → (∀ e ∈ M, e.mu = false) →
      DSs (bodyCx P w K mg base N qual st f cdv A outer s H0 E) rs.F ⟨rs, M, startA N as⟩ (defBody st) ⟨fun S => S.rs = rs ∧ R aN, fun rs2 _ a => rs2 = rs ∧ R a, fun _ => False, fun _ => False⟩) : FnG P w K mg base CX0 (k + 1) f fd ps (Spec K T) :=
  fn_goF F Sc len fun cdv A outer s H0 E room gd rs M as R t ro G H vs reps ok => ⟨rs, M, ok, (fun e he hm => absurd hm (by rw [ro e he]; decide)), fun b h => h, fun G0 H1 => pss_weak (body cdv A outer s H0 E room gd rs M as R t ro G0 H1) fun De σ H ⟨G, st, n, r, b, c⟩ =>
    ⟨G, st, fun S' σ' G' H' ⟨e, q⟩ => n S' σ' G' H' ⟨q, fun G H o => by rw [e] at o; exact o.i⟩, fun rs2 M2 v a G' H' ⟨e, q⟩ => r rs2 M2 v a G' H' ⟨q, fun G H o => by rw [e] at o; exact o.i⟩, b, c⟩⟩
end
end HW
/-! Own layer, part D: operators, built-ins, sequences, repr. -/
namespace HW
open PySem PySem.Spec PyProof.Rows L2 RZ

section
variable {K : PySem.W.Frag} {rs : Rs} {M : Mem} {R : Ab → Prop} {i j : Int}
theorem rep_int {G : Hp} {v : V} (h : Rep K G v (aI i)) : v = .int i := by
  have h : Dp K G v (.int i) := h
  cases h
  rfl
theorem rep_bl {G : Hp} {v : V} {b : Bool} (h : Rep K G v (aB b)) : v = .bl b := by
  have h : Dp K G v (.bool b) := h
  cases h
  rfl
theorem rep_str {G : Hp} {v : V} {b : Str} (h : Rep K G v (aS b)) : v = .str b := by
  have h : Dp K G v (.str b) := h
  cases h
  rfl
theorem rep_non {G : Hp} {v : V} (h : Rep K G v aN) : v = .non := by
  have h : Dp K G v .none := h
  cases h
  rfl
theorem ar_int {C : Int → Int → Prop} {g : Int → Int → Int} (hc : C i j) (h : R (aI (g i j))) : AR2 K rs M (rI C fun i j => .int (g i j)) (aI i) (aI j) R := fun G H v u Q ok r1 r2 k => by
  rw [rep_int r1, rep_int r2]
  exact ⟨i, j, rfl, rfl, hc, k _ _ G H h (Dp.int _) (Nxt.rfl ok)⟩
theorem ar_int0 {g : Int → Int → Int} (h : R (aI (g i j))) : AR2 K rs M (rI0 fun i j => .int (g i j)) (aI i) (aI j) R := fun G H v u Q ok r1 r2 k => by
  rw [rep_int r1, rep_int r2]
  exact ⟨i, j, rfl, rfl, k _ _ G H h (Dp.int _) (Nxt.rfl ok)⟩
theorem ar_cmp0 {g : Int → Int → Bool} (h : R (aB (g i j))) : AR2 K rs M (rI0 fun i j => .bl (g i j)) (aI i) (aI j) R := fun G H v u Q ok r1 r2 k => by
  rw [rep_int r1, rep_int r2]
  exact ⟨i, j, rfl, rfl, k _ _ G H h (Dp.bl _) (Nxt.rfl ok)⟩
theorem ar_eqI (h : R (aB (decide (i = j)))) : AR2 K rs M rEq (aI i) (aI j) R := fun G H v u Q ok r1 r2 k => by
  rw [rep_int r1, rep_int r2]
  refine ⟨rfl, k _ _ G H h ?_ (Nxt.rfl ok)⟩
  have e : decide (V.int i = V.int j) = decide (i = j) := by rw [dec_int, Bool.beq_eq_decide_eq]
  rw [e]
  exact Dp.bl _
theorem ar_neI (h : R (aB (!decide (i = j)))) : AR2 K rs M rNe (aI i) (aI j) R := fun G H v u Q ok r1 r2 k => by
  rw [rep_int r1, rep_int r2]
  refine ⟨rfl, k _ _ G H h ?_ (Nxt.rfl ok)⟩
  have e : decide (V.int i = V.int j) = decide (i = j) := by rw [dec_int, Bool.beq_eq_decide_eq]
  rw [e]
  exact Dp.bl _
theorem ar_eqS {a b : Str} (h : R (aB (decide (a = b)))) : AR2 K rs M rEq (aS a) (aS b) R := fun G H v u Q ok r1 r2 k => by
  rw [rep_str r1, rep_str r2]
  refine ⟨rfl, k _ _ G H h ?_ (Nxt.rfl ok)⟩
  have e : decide (V.str a = V.str b) = decide (a = b) := by simp only [V.str.injEq]
  rw [e]
  exact Dp.bl _
theorem ar_neS {a b : Str} (h : R (aB (!decide (a = b)))) : AR2 K rs M rNe (aS a) (aS b) R := fun G H v u Q ok r1 r2 k => by
  rw [rep_str r1, rep_str r2]
  refine ⟨rfl, k _ _ G H h ?_ (Nxt.rfl ok)⟩
  have e : decide (V.str a = V.str b) = decide (a = b) := by simp only [V.str.injEq]
  rw [e]
  exact Dp.bl _
/-- data that may be read off a value -/
def View (K : PySem.W.Frag) (rs : Rs) (M : Mem) (x : Ab) (d : PyData) : Prop := ∀ G H v, Ok K rs M G H → Rep K G v x → L2.Dp K H v d
theorem view_d (d : PyData) : View K rs M (.d d) d := fun _ _ _ ok r => (dp_same ok.gh _ _ r).old
theorem view_at {p : Addr} {b : Bool} {ds : List PyData} (h : (⟨p, b, .lst (ds.map .d)⟩ : Me) ∈ M) : View K rs M (.at p) (.list ds) := fun G H v ok r => by
  have r : v = .ref p := r
  subst r
  obtain ⟨_, _, vs, e1, ra⟩ := ok.m _ h
  exact (Dp.lst e1 (dpAll_same ok.gh _ _ (repAll_dp.mp ra))).old
theorem ar_eqD {x y : Ab} {d e : PyData} (hx : View K rs M x d) (hy : View K rs M y e) (sd : SeqAt.shaped d = true) (se : SeqAt.shaped e = true) (h : R (aB (PyData.eqv d e))) : AR2 K rs M (rEqD K) x y R := fun G H v u Q ok r1 r2 k =>
  ⟨d, e, hx G H v ok r1, hy G H u ok r2, sd, se, k _ _ G H h (Dp.bl _) (Nxt.rfl ok)⟩
theorem ar_neD {x y : Ab} {d e : PyData} (hx : View K rs M x d) (hy : View K rs M y e) (sd : SeqAt.shaped d = true) (se : SeqAt.shaped e = true) (h : R (aB (!PyData.eqv d e))) : AR2 K rs M (rNeD K) x y R := fun G H v u Q ok r1 r2 k =>
  ⟨d, e, hx G H v ok r1, hy G H u ok r2, sd, se, k _ _ G H h (Dp.bl _) (Nxt.rfl ok)⟩

/-! ### sequences -/
/-- a list that may be read; one that the program made -/
def SeqL (K : PySem.W.Frag) (rs : Rs) (M : Mem) (x : Ab) (xs : List Ab) : Prop := ∀ G H v, Ok K rs M G H → Rep K G v x → ∃ a vs, v = .ref a ∧ SqL K H a vs ∧ RepAll K G vs xs
def SeqM (K : PySem.W.Frag) (rs : Rs) (M : Mem) (x : Ab) (xs : List Ab) : Prop := ∀ G H v, Ok K rs M G H → Rep K G v x → ∃ a vs, v = .ref a ∧ H a = some (.lst vs) ∧ RepAll K G vs xs
theorem SeqM.l {x : Ab} {xs : List Ab} (h : SeqM K rs M x xs) : SeqL K rs M x xs := fun G H v ok r => by
  obtain ⟨a, vs, e, s, ra⟩ := h G H v ok r
  exact ⟨a, vs, e, .inl (.inl s), ra⟩
theorem seqM_l (ds : List PyData) : SeqM K rs M (aL ds) (ds.map .d) := fun G H v ok r => by
  have r : Dp K G v (.list ds) := r
  cases r with
  | lst hs ha => exact ⟨_, _, rfl, ok.gh _ _ hs, repAll_dp.mpr ha⟩
theorem seqM_at {p : Addr} {b : Bool} {xs : List Ab} (h : (⟨p, b, .lst xs⟩ : Me) ∈ M) : SeqM K rs M (.at p) xs := fun G H v ok r => by
  have r : v = .ref p := r
  obtain ⟨_, _, vs, e1, ra⟩ := ok.m _ h
  exact ⟨p, vs, r, e1, ra⟩
theorem seqL_scr (ns : List Int) : SeqL K rs M (aScr K ns) ((ns.map .int).map .d) := fun G H v ok r => by
  obtain ⟨G0, e, a, rfl, s⟩ := r
  exact ⟨a, _, rfl, sqL_same (e.trans ok.gh) s, by rw [List.map_map]; exact ints_repAll ns⟩
theorem SeqL.get {x : Ab} {xs : List Ab} {G H : Hp} {v : V} (h : SeqL K rs M x xs) (ok : Ok K rs M G H) (r : Rep K G v x) : ∃ a vs, v = .ref a ∧ SqL K H a vs ∧ RepAll K G vs xs := h G H v ok r
theorem tup_get {ds : List PyData} {G H : Hp} {v : V} (ok : Ok K rs M G H) (r : Rep K G v (aT ds)) : ∃ a vs, v = .ref a ∧ SqT K H a vs ∧ RepAll K G vs (ds.map .d) := by
  have r : Dp K G v (.tuple ds) := r
  cases r with
  | tup hs ha => exact ⟨_, _, rfl, sqT_same ok.gh hs, repAll_dp.mpr ha⟩
def Seqs (K : PySem.W.Frag) (rs : Rs) (M : Mem) (x : Ab) (xs : List Ab) : Prop := SeqL K rs M x xs ∨ ∃ ds, x = aT ds ∧ xs = ds.map .d
theorem Seqs.get {x : Ab} {xs : List Ab} {G H : Hp} {v : V} (h : Seqs K rs M x xs) (ok : Ok K rs M G H) (r : Rep K G v x) : ∃ a vs, v = .ref a ∧ (SqL K H a vs ∨ SqT K H a vs) ∧ RepAll K G vs xs := by
  rcases h with h | ⟨ds, rfl, rfl⟩
  · obtain ⟨a, vs, e, s, r⟩ := h.get ok r
    exact ⟨a, vs, e, .inl s, r⟩
  · obtain ⟨a, vs, e, s, r⟩ := tup_get ok r
    exact ⟨a, vs, e, .inr s, r⟩
theorem seqs_l (ds : List PyData) : Seqs K rs M (aL ds) (ds.map .d) := .inl (seqM_l ds).l
theorem seqs_t (ds : List PyData) : Seqs K rs M (aT ds) (ds.map .d) := .inr ⟨ds, rfl, rfl⟩
theorem seqs_at {p : Addr} {b : Bool} {xs : List Ab} (h : (⟨p, b, .lst xs⟩ : Me) ∈ M) : Seqs K rs M (.at p) xs := .inl (seqM_at h).l
theorem seqs_scr (ns : List Int) : Seqs K rs M (aScr K ns) ((ns.map .int).map .d) := .inl (seqL_scr ns)
def rLenS (K : PySem.W.Frag) : List V → Hp → VK → Prop := fun xs H Q => ∃ p ys, xs = [.ref p] ∧ (SqL K H p ys ∨ SqT K H p ys) ∧ Q (.int ys.length) H
theorem cr_lenS {X : Cx} : CallR X (.builtin "len") (rLenS X.K) := call_len_seq
theorem ac_len {x : Ab} {xs : List Ab} (h : Seqs K rs M x xs) (r : R (aI (xs.length : Int))) : ARC K rs M (rLenS K) [x] R := fun G H vs Q ok reps k => by
  match vs, reps with
  | [v], ⟨rv, _⟩ =>
    obtain ⟨a, ws, rfl, s, ra⟩ := h.get ok rv
    refine ⟨a, ws, rfl, s, k _ _ G H r ?_ (Nxt.rfl ok)⟩
    rw [ra.length]
    exact Dp.int _
theorem repAll_atI {G : Hp} {vs : List V} {xs : List Ab} {a : Ab} (r : RepAll K G vs xs) (h : atI xs i = some a) : ∃ v, atI vs i = some v ∧ Rep K G v a := by
  unfold atI at h ⊢
  rw [r.length]
  cases q : ixN xs.length i with
  | none =>
    rw [q] at h
    cases h
  | some j =>
    rw [q] at h
    exact r.get h
theorem ar_ix {x : Ab} {xs : List Ab} {a : Ab} (h : Seqs K rs M x xs) (ha : atI xs i = some a) (r : R a) : AR2 K rs M (rIx K) x (aI i) R := fun G H v u Q ok r1 r2 k => by
  rw [rep_int r2]
  obtain ⟨p, ws, rfl, s, ra⟩ := h.get ok r1
  obtain ⟨w, hw, rw'⟩ := repAll_atI ra ha
  rcases s with s | s
  · exact .inl ⟨p, ws, i, w, rfl, rfl, s, hw, k _ a G H r rw' (Nxt.rfl ok)⟩
  · exact .inr (.inl ⟨p, ws, i, w, rfl, rfl, s, hw, k _ a G H r rw' (Nxt.rfl ok)⟩)
end

/-- the places of a slice -/
def cutA {α : Type} (xs : List α) (lo hi : Option Int) : List α := (xs.drop (HT.sIx xs.length 0 lo)).take (HT.sIx xs.length xs.length hi - HT.sIx xs.length 0 lo)
theorem cutA_map {α β : Type} (f : α → β) (xs : List α) (lo hi : Option Int) : cutA (xs.map f) lo hi = (cutA xs lo hi).map f := by
  unfold cutA
  rw [List.length_map, List.map_take, List.map_drop]
theorem RepAll.cut {K : PySem.W.Frag} {G : Hp} {vs : List V} {as : List Ab} (h : RepAll K G vs as) (lo hi : Option Int) : RepAll K G (cutV vs lo hi) (cutA as lo hi) := by
  unfold cutV cutA
  rw [h.length]
  exact (h.drop _).take _
def tDO (K : PySem.W.Frag) (rs : Rs) (M : Mem) (ρ : List (Option Ab)) (R : Option Int → Prop) : TO := fun σ H Q => ∃ G, Loc K G σ ρ ∧ Ok K rs M G H ∧ ∀ o G' H', R o → Nxt rs G H G' H' → Q o H'
abbrev DO (X : Cx) (rs : Rs) (M : Mem) (ρ : List (Option Ab)) (e : Option Expr) (R : Option Int → Prop) : Prop := PO X e (tDO X.K rs M ρ R)
section
variable {X : Cx} {rs : Rs} {M : Mem} {ρ : List (Option Ab)} {a b e : Expr} {es : List Expr} {pos p p2 : Pos} {R Ra Rb : Ab → Prop} {x y : Ab} {i j : Int} {lo hi : Option Expr}
theorem po_weak {e : Option Expr} {t t' : TO} (h : PO X e t) (w : ∀ σ H Q, t' σ H Q → t σ H Q) : PO X e t' := ⟨fun pins s σ H Q I q => h.run pins s σ H Q I (w σ H Q q)⟩
theorem do_none : DO X rs M ρ none (fun o => o = none) := po_weak po_none fun σ H Q ⟨G, l, ok, k⟩ => k none G H rfl (Nxt.rfl ok)
theorem do_someR {T : Option Int → Prop} (h : DE X rs M ρ e Ra) (w : ∀ y, Ra y → ∃ i, y = aI i ∧ T (some i)) : DO X rs M ρ (some e) T := po_weak (po_some h) fun σ H Q ⟨G, l, ok, k⟩ => ⟨G, l, ok, fun v y G1 H1 ry rep n => by
  obtain ⟨i, rfl, t⟩ := w y ry
  rw [rep_int rep]
  exact ⟨i, rfl, k (some i) G1 H1 t n⟩⟩
theorem do_some (h : DE X rs M ρ e (Is (aI i))) : DO X rs M ρ (some e) (fun o => o = some i) := do_someR h fun y hy => ⟨i, hy, rfl⟩
/-- a tuple's slice -/
theorem de_slT {ds : List PyData} {ol oh : Option Int} (ha : DE X rs M ρ a (Is (aT ds))) (hl : DO X rs M ρ lo (fun o => o = ol)) (hh : DO X rs M ρ hi (fun o => o = oh)) : DE X rs M ρ (.Subscript a (.Slice lo hi none p2) pos) (Is (aT (cutA ds ol oh))) :=
  pe_weak (pe_slice sl_tupA ha hl hh) fun σ H Q ⟨G, l, ok, k⟩ => tD_go l ok fun v y G1 H1 ry rep1 l1 ok1 n1 => ⟨G1, l1, ok1, fun o1 G2 H2 e1 n2 => ⟨G2, l1.same n2.g, ok1.nxt n2, fun o2 G3 H3 e2 n3 => by
    subst ry e1 e2
    have n23 := n2.trans n3 ok1
    have ok3 := ok1.nxt n23
    obtain ⟨q, ws, rfl, s, ra⟩ := tup_get ok3 (rep1.same n23.g)
    have n123 := n1.trans n23 ok
    have rc := ra.cut o1 o2
    rw [cutA_map] at rc
    refine ⟨q, ws, rfl, s, fun hw => ?_, fun _ z hz => ?_⟩
    · refine k (.ref q) _ G3 H3 rfl ?_ n123
      have same : cutA ds o1 o2 = ds := by
        have hl : ws.length = ds.length := by rw [ra.length, List.length_map]
        unfold cutA
        rw [← hl, hw.1, hw.2, List.drop_zero, Nat.sub_zero, hl, List.take_length]
      rw [same]
      exact rep1.same n23.g
    · have n4 := Nxt.new (o := .tup (cutV ws o1 o2)) ok3 hz
      exact k (.ref z) _ _ _ rfl (Dp.tup (.inl (.inl upd_same)) (dpAll_same n4.g _ _ (repAll_dp.mp rc))) (n123.trans n4 ok)⟩⟩
/-- a list's slice -/
theorem dn_slL {xs : List Ab} {ol oh : Option Int} {y : Ab} (ha : DE X rs M ρ a (Is y)) (hs : SeqL X.K rs M y xs) (hl : DO X rs M ρ lo (fun o => o = ol)) (hh : DO X rs M ρ hi (fun o => o = oh)) : DN X rs M ρ (.Subscript a (.Slice lo hi none p2) pos) (fun as => as = cutA xs ol oh) :=
  pe_weak (pe_slice sl_list ha hl hh) fun σ H Q ⟨G, l, ok, k⟩ => tD_go l ok fun v z G1 H1 ry rep1 l1 ok1 n1 => ⟨G1, l1, ok1, fun o1 G2 H2 e1 n2 => ⟨G2, l1.same n2.g, ok1.nxt n2, fun o2 G3 H3 e2 n3 => by
    subst ry e1 e2
    have n23 := n2.trans n3 ok1
    have ok3 := ok1.nxt n23
    obtain ⟨q, ws, rfl, s, ra⟩ := hs.get ok3 (rep1.same n23.g)
    have n123 := n1.trans n23 ok
    exact ⟨q, ws, rfl, s, fun z hz => k z _ _ G3 _ rfl (ra.cut o1 o2) upd_same (ok3.gnone hz) (fresh_of ok n123 hz) (n123.trans (Nxt.newM ok3 hz) ok)⟩⟩⟩

/-! ### ints -/
theorem de_add (ha : DE X rs M ρ a (Is (aI i))) (hb : DE X rs M ρ b (Is (aI j))) : DE X rs M ρ (.BinOp a .Add b pos) (Is (aI (i + j))) := de_op op_add ha hb fun _ _ e1 e2 => by subst e1 e2; exact ar_int0 rfl
theorem de_sub (ha : DE X rs M ρ a (Is (aI i))) (hb : DE X rs M ρ b (Is (aI j))) : DE X rs M ρ (.BinOp a .Sub b pos) (Is (aI (i - j))) := de_op op_sub ha hb fun _ _ e1 e2 => by subst e1 e2; exact ar_int0 rfl
theorem de_mul (ha : DE X rs M ρ a (Is (aI i))) (hb : DE X rs M ρ b (Is (aI j))) (hc : CMul i j) : DE X rs M ρ (.BinOp a .Mult b pos) (Is (aI (i * j))) := de_op op_mul ha hb fun _ _ e1 e2 => by subst e1 e2; exact ar_int hc rfl
theorem de_mulW (ha : DE X rs M ρ a (Is (aI i))) (hb : DE X rs M ρ b (Is (aI j))) (hc : CMulW i j) : DE X rs M ρ (.BinOp a .Mult b pos) (Is (aI (i * j))) := de_op op_mulW ha hb fun _ _ e1 e2 => by subst e1 e2; exact ar_int hc rfl
theorem de_mod (ha : DE X rs M ρ a (Is (aI i))) (hb : DE X rs M ρ b (Is (aI j))) (hc : 0 < j) : DE X rs M ρ (.BinOp a .Mod b pos) (Is (aI (i % j))) := de_op op_mod ha hb fun _ _ e1 e2 => by subst e1 e2; exact ar_int hc rfl
theorem de_div (ha : DE X rs M ρ a (Is (aI i))) (hb : DE X rs M ρ b (Is (aI j))) (hc : CDivW i j) : DE X rs M ρ (.BinOp a .FloorDiv b pos) (Is (aI (i / j))) := de_op op_fdivW ha hb fun _ _ e1 e2 => by subst e1 e2; exact ar_int hc rfl
theorem de_pow (ha : DE X rs M ρ a (Is (aI i))) (hb : DE X rs M ρ b (Is (aI j))) (hc : CPow i j) : DE X rs M ρ (.BinOp a .Pow b pos) (Is (aI (i ^ j.toNat))) := de_op op_pow ha hb fun _ _ e1 e2 => by subst e1 e2; exact ar_int hc rfl
theorem de_shl (ha : DE X rs M ρ a (Is (aI i))) (hb : DE X rs M ρ b (Is (aI j))) (hc : CPow i j) : DE X rs M ρ (.BinOp a .LShift b pos) (Is (aI (i * 2 ^ j.toNat))) := de_op op_shl ha hb fun _ _ e1 e2 => by subst e1 e2; exact ar_int hc rfl
theorem de_shr (ha : DE X rs M ρ a (Is (aI i))) (hb : DE X rs M ρ b (Is (aI j))) (hc : 0 ≤ j) : DE X rs M ρ (.BinOp a .RShift b pos) (Is (aI (i / 2 ^ j.toNat))) := de_op op_shr ha hb fun _ _ e1 e2 => by subst e1 e2; exact ar_int hc rfl
theorem de_band (ha : DE X rs M ρ a (Is (aI i))) (hb : DE X rs M ρ b (Is (aI j))) : DE X rs M ρ (.BinOp a .BitAnd b pos) (Is (aI (Builtin.bitAnd i j))) := de_op op_and ha hb fun _ _ e1 e2 => by subst e1 e2; exact ar_int0 rfl
theorem de_bor (ha : DE X rs M ρ a (Is (aI i))) (hb : DE X rs M ρ b (Is (aI j))) : DE X rs M ρ (.BinOp a .BitOr b pos) (Is (aI (Builtin.bitOr i j))) := de_op op_or ha hb fun _ _ e1 e2 => by subst e1 e2; exact ar_int0 rfl
theorem de_bxor (ha : DE X rs M ρ a (Is (aI i))) (hb : DE X rs M ρ b (Is (aI j))) : DE X rs M ρ (.BinOp a .BitXor b pos) (Is (aI (Builtin.bitXor i j))) := de_op op_xor ha hb fun _ _ e1 e2 => by subst e1 e2; exact ar_int0 rfl
theorem de_neg (ha : DE X rs M ρ a (Is (aI i))) : DE X rs M ρ (.UnaryOp .USub a pos) (Is (aI (-i))) := de_un un_neg ha fun y e => fun G H v Q ok r k => by
  subst e
  rw [rep_int r]
  exact ⟨i, rfl, k _ _ G H rfl (Dp.int _) (Nxt.rfl ok)⟩
theorem dt_lt (ha : DE X rs M ρ a (Is (aI i))) (hb : DE X rs M ρ b (Is (aI j))) : DT X rs M ρ (.Compare a [.Lt] [b] pos) (fun c => c = decide (i < j)) := dt_cmp op_lt ha hb (fun _ _ e1 e2 => by subst e1 e2; exact ar_cmp0 ⟨_, rfl, rfl⟩) (nomark _)
theorem dt_le (ha : DE X rs M ρ a (Is (aI i))) (hb : DE X rs M ρ b (Is (aI j))) : DT X rs M ρ (.Compare a [.LtE] [b] pos) (fun c => c = decide (i ≤ j)) := dt_cmp op_le ha hb (fun _ _ e1 e2 => by subst e1 e2; exact ar_cmp0 ⟨_, rfl, rfl⟩) (nomark _)
theorem dt_gt (ha : DE X rs M ρ a (Is (aI i))) (hb : DE X rs M ρ b (Is (aI j))) : DT X rs M ρ (.Compare a [.Gt] [b] pos) (fun c => c = decide (j < i)) := dt_cmp op_gt ha hb (fun _ _ e1 e2 => by subst e1 e2; exact ar_cmp0 ⟨_, rfl, rfl⟩) (nomark _)
theorem dt_ge (ha : DE X rs M ρ a (Is (aI i))) (hb : DE X rs M ρ b (Is (aI j))) : DT X rs M ρ (.Compare a [.GtE] [b] pos) (fun c => c = decide (j ≤ i)) := dt_cmp op_ge ha hb (fun _ _ e1 e2 => by subst e1 e2; exact ar_cmp0 ⟨_, rfl, rfl⟩) (nomark _)
theorem dt_eqI (ha : DE X rs M ρ a (Is (aI i))) (hb : DE X rs M ρ b (Is (aI j))) : DT X rs M ρ (.Compare a [.Eq] [b] pos) (fun c => c = decide (i = j)) := dt_cmp op_eq ha hb (fun _ _ e1 e2 => by subst e1 e2; exact ar_eqI ⟨_, rfl, rfl⟩) (nomark _)
theorem dt_neI (ha : DE X rs M ρ a (Is (aI i))) (hb : DE X rs M ρ b (Is (aI j))) : DT X rs M ρ (.Compare a [.NotEq] [b] pos) (fun c => c = !decide (i = j)) := dt_cmp op_ne ha hb (fun _ _ e1 e2 => by subst e1 e2; exact ar_neI ⟨_, rfl, rfl⟩) (nomark _)
theorem de_lt (ha : DE X rs M ρ a (Is (aI i))) (hb : DE X rs M ρ b (Is (aI j))) : DE X rs M ρ (.Compare a [.Lt] [b] pos) (Is (aB (decide (i < j)))) := de_cmp op_lt ha hb (fun _ _ e1 e2 => by subst e1 e2; exact ar_cmp0 rfl) (nomark _)
theorem de_eqI (ha : DE X rs M ρ a (Is (aI i))) (hb : DE X rs M ρ b (Is (aI j))) : DE X rs M ρ (.Compare a [.Eq] [b] pos) (Is (aB (decide (i = j)))) := de_cmp op_eq ha hb (fun _ _ e1 e2 => by subst e1 e2; exact ar_eqI rfl) (nomark _)
theorem de_neI (ha : DE X rs M ρ a (Is (aI i))) (hb : DE X rs M ρ b (Is (aI j))) : DE X rs M ρ (.Compare a [.NotEq] [b] pos) (Is (aB (!decide (i = j)))) := de_cmp op_ne ha hb (fun _ _ e1 e2 => by subst e1 e2; exact ar_neI rfl) (nomark _)
theorem dt_eqS {s t : Str} (ha : DE X rs M ρ a (Is (aS s))) (hb : DE X rs M ρ b (Is (aS t))) : DT X rs M ρ (.Compare a [.Eq] [b] pos) (fun c => c = decide (s = t)) := dt_cmp op_eq ha hb (fun _ _ e1 e2 => by subst e1 e2; exact ar_eqS ⟨_, rfl, rfl⟩) (nomark _)
theorem dt_neS {s t : Str} (ha : DE X rs M ρ a (Is (aS s))) (hb : DE X rs M ρ b (Is (aS t))) : DT X rs M ρ (.Compare a [.NotEq] [b] pos) (fun c => c = !decide (s = t)) := dt_cmp op_ne ha hb (fun _ _ e1 e2 => by subst e1 e2; exact ar_neS ⟨_, rfl, rfl⟩) (nomark _)
theorem de_eqS {s t : Str} (ha : DE X rs M ρ a (Is (aS s))) (hb : DE X rs M ρ b (Is (aS t))) : DE X rs M ρ (.Compare a [.Eq] [b] pos) (Is (aB (decide (s = t)))) := de_cmp op_eq ha hb (fun _ _ e1 e2 => by subst e1 e2; exact ar_eqS rfl) (nomark _)
theorem dt_eqD {x y : Ab} {d e : PyData} (hu : X.A.units + 64 < cLine) (ha : DE X rs M ρ a (Is x)) (hb : DE X rs M ρ b (Is y)) (hx : View X.K rs M x d) (hy : View X.K rs M y e) (sd : SeqAt.shaped d = true) (se : SeqAt.shaped e = true) : DT X rs M ρ (.Compare a [.Eq] [b] pos) (fun c => c = PyData.eqv d e) :=
  dt_cmp (op_eqD hu) ha hb (fun _ _ e1 e2 => by subst e1 e2; exact ar_eqD hx hy sd se ⟨_, rfl, rfl⟩) (nomark _)
theorem dt_neD {x y : Ab} {d e : PyData} (hu : X.A.units + 64 < cLine) (ha : DE X rs M ρ a (Is x)) (hb : DE X rs M ρ b (Is y)) (hx : View X.K rs M x d) (hy : View X.K rs M y e) (sd : SeqAt.shaped d = true) (se : SeqAt.shaped e = true) : DT X rs M ρ (.Compare a [.NotEq] [b] pos) (fun c => c = !PyData.eqv d e) :=
  dt_cmp (op_neD hu) ha hb (fun _ _ e1 e2 => by subst e1 e2; exact ar_neD hx hy sd se ⟨_, rfl, rfl⟩) (nomark _)

/-! ### sequences -/
theorem de_len {xs : List Ab} (hm : X.mg "len" = none) (ha : DE X rs M ρ e (Is x)) (hs : Seqs X.K rs M x xs) (hg : Gl X "len" := by rfl) (he : starEach [e] X.env = (false, eval e X.env) :: starEach [] X.env := by rfl) :
    DE X rs M ρ (.Call (.Name "len" p) [e] [] pos) (Is (aI (xs.length : Int))) := de_callB cr_lenS hg hm PySem.boot_len (da_cons ha da_nil he) (fun as e1 => by subst e1; exact ac_len hs rfl) (hs := he)
theorem de_ix {xs : List Ab} {y : Ab} (ha : DE X rs M ρ a (Is x)) (hb : DE X rs M ρ b (Is (aI i))) (hs : Seqs X.K rs M x xs) (hy : atI xs i = some y) (hp : PlainIx b := by exact fun _ _ => rfl) : DE X rs M ρ (.Subscript a b pos) (Is y) :=
  pe_weak (pe_ix ix_seq ha hb hp) fun σ H Q ⟨G, l, ok, k⟩ => tD_go l ok fun v z G1 H1 ry rep1 l1 ok1 n1 => tD_go l1 ok1 fun u w G2 H2 rz rep2 l2 ok2 n2 => by
    subst ry rz
    exact ar_ix (R := Is y) hs hy rfl G2 H2 v u Q ok2 (rep1.same n2.g) rep2 fun w c G3 H3 rc rep3 n3 => k w c G3 H3 rc rep3 (n1.trans (n2.trans n3 ok1) ok)
/-- the index drawn -/
theorem de_ixR {xs : List Ab} (ha : DE X rs M ρ a (Is x)) (hb : DE X rs M ρ b Rb) (hs : Seqs X.K rs M x xs) (hy : ∀ z, Rb z → ∃ i y, z = aI i ∧ atI xs i = some y ∧ R y) (hp : PlainIx b := by exact fun _ _ => rfl) : DE X rs M ρ (.Subscript a b pos) R :=
  pe_weak (pe_ix ix_seq ha hb hp) fun σ H Q ⟨G, l, ok, k⟩ => tD_go l ok fun v z G1 H1 ry rep1 l1 ok1 n1 => tD_go l1 ok1 fun u w G2 H2 rz rep2 l2 ok2 n2 => by
    subst ry
    obtain ⟨i, y, rfl, h1, h2⟩ := hy w rz
    exact ar_ix (R := R) hs h1 h2 G2 H2 v u Q ok2 (rep1.same n2.g) rep2 fun w c G3 H3 rc rep3 n3 => k w c G3 H3 rc rep3 (n1.trans (n2.trans n3 ok1) ok)
/-- t + u -/
theorem de_catT {ds es : List PyData} (ha : DE X rs M ρ a (Is (aT ds))) (hb : DE X rs M ρ b (Is (aT es))) (hl : ds.length + es.length ≤ 100000) : DE X rs M ρ (.BinOp a .Add b pos) (Is (aT (ds ++ es))) :=
  de_op op_catA ha hb fun y z e1 e2 => fun G H v u Q ok r1 r2 k => by
    subst e1 e2
    obtain ⟨p1, w1, rfl, s1, ra1⟩ := tup_get ok r1
    obtain ⟨p2, w2, rfl, s2, ra2⟩ := tup_get ok r2
    have l1 : w1.length = ds.length := by rw [ra1.length, List.length_map]
    have l2 : w2.length = es.length := by rw [ra2.length, List.length_map]
    refine ⟨p1, p2, w1, w2, rfl, rfl, s1, s2, by rw [l1, l2]; exact Nat.le_trans hl (by decide), fun hz => ?_, fun _ hz => ?_, fun _ _ q hq => ?_⟩
    · have : ds = [] := List.length_eq_zero_iff.mp (by rw [← l1, hz]; rfl)
      subst this
      exact k _ _ G H rfl r2 (Nxt.rfl ok)
    · have : es = [] := List.length_eq_zero_iff.mp (by rw [← l2, hz]; rfl)
      subst this
      refine k _ (aT (ds ++ [])) G H rfl ?_ (Nxt.rfl ok)
      rw [List.append_nil]
      exact r1
    · have n4 := Nxt.new (o := .tup (w1 ++ w2)) ok hq
      have rc := ra1.append ra2
      rw [← List.map_append] at rc
      exact k (.ref q) _ _ _ rfl (Dp.tup (.inl (.inl upd_same)) (dpAll_same n4.g _ _ (repAll_dp.mp rc))) n4
/-- (a, ..) * k -/
theorem de_repT {ds : List PyData} {k : Int} (ha : DE X rs M ρ a (Is (aT ds))) (hb : DE X rs M ρ b (Is (aI k))) (hd : ds ≠ []) (h2 : 2 ≤ k) (h3 : k ≤ 1000) (hl : ds.length ≤ 1000) : DE X rs M ρ (.BinOp a .Mult b pos) (Is (aT (List.replicate k.toNat ds).flatten)) :=
  de_op op_repT ha hb fun y z e1 e2 => fun G H v u Q ok r1 r2 kk => by
    subst e1 e2
    obtain ⟨p1, w1, rfl, s1, ra1⟩ := tup_get ok r1
    rw [rep_int r2]
    have l1 : w1.length = ds.length := by rw [ra1.length, List.length_map]
    refine ⟨p1, k, w1, rfl, rfl, s1, fun z => hd (List.length_eq_zero_iff.mp (by rw [← l1, z]; rfl)), h2, h3, by omega, fun q hq => ?_⟩
    have n4 := Nxt.new (o := .tup (List.replicate k.toNat w1).flatten) ok hq
    have rc := ra1.rep k.toNat
    rw [show (List.replicate k.toNat (ds.map Ab.d)).flatten = ((List.replicate k.toNat ds).flatten).map Ab.d by rw [List.map_flatten, List.map_replicate]] at rc
    exact kk (.ref q) _ _ _ rfl (Dp.tup (.inl (.inl upd_same)) (dpAll_same n4.g _ _ (repAll_dp.mp rc))) n4
/-- tuple(x) -/
theorem de_tupleOf {ds : List PyData} (hm : X.mg "tuple" = none) (ha : DE X rs M ρ e (Is x)) (hs : Seqs X.K rs M x (ds.map .d)) (hg : Gl X "tuple" := by rfl) (he : starEach [e] X.env = (false, eval e X.env) :: starEach [] X.env := by rfl) :
    DE X rs M ρ (.Call (.Name "tuple" p) [e] [] pos) (Is (aT ds)) :=
  pe_weak (pe_tupleOf hg hm ha he) fun σ H Q ⟨G, l, ok, k⟩ => ⟨G, l, ok, fun v y G1 H1 ry rep n => by
    subst ry
    have ok1 := ok.nxt n
    rcases hs with hs | ⟨ds', rfl, e2⟩
    · obtain ⟨q, ws, rfl, s, ra⟩ := hs.get ok1 rep
      refine .inl ⟨q, ws, rfl, s, fun z hz => ?_⟩
      have n4 := Nxt.new (o := .tup ws) ok1 hz
      exact k (.ref z) _ _ _ rfl (Dp.tup (.inl (.inl upd_same)) (dpAll_same n4.g _ _ (repAll_dp.mp ra))) (n.trans n4 ok)
    · obtain ⟨q, ws, rfl, s, ra⟩ := tup_get ok1 rep
      have e3 : ds = ds' := (List.map_inj_right (fun _ _ h => Ab.d.inj h)).mp e2
      subst e3
      exact .inr ⟨q, ws, rfl, s, k _ _ G1 H1 rfl rep n⟩⟩
/-- tuple(e), e a list whatever it is told to be -/
theorem de_tupleOfR (hm : X.mg "tuple" = none) (ha : DE X rs M ρ e Ra) (hs : ∀ x, Ra x → ∃ ds, x = aL ds ∧ R (aT ds)) (hg : Gl X "tuple" := by rfl) (he : starEach [e] X.env = (false, eval e X.env) :: starEach [] X.env := by rfl) :
    DE X rs M ρ (.Call (.Name "tuple" p) [e] [] pos) R :=
  pe_weak (pe_tupleOf hg hm ha he) fun σ H Q ⟨G, l, ok, k⟩ => ⟨G, l, ok, fun v y G1 H1 ry rep n => by
    obtain ⟨ds, rfl, r⟩ := hs y ry
    have ok1 := ok.nxt n
    obtain ⟨q, ws, rfl, s, ra⟩ := (seqM_l ds).l.get ok1 rep
    refine .inl ⟨q, ws, rfl, s, fun z hz => ?_⟩
    have n4 := Nxt.new (o := .tup ws) ok1 hz
    exact k (.ref z) _ _ _ r (Dp.tup (.inl (.inl upd_same)) (dpAll_same n4.g _ _ (repAll_dp.mp ra))) (n.trans n4 ok)⟩
/-- list(x) -/
def rListS (K : PySem.W.Frag) : List V → Hp → VK → Prop := fun xs H Q => ∃ p ys, xs = [.ref p] ∧ (SqL K H p ys ∨ SqT K H p ys) ∧ ∀ l, H l = none → Q (.ref l) (upd H l (.lst ys))
theorem cr_listS : CallR X (.type "list") (rListS X.K) := call_list_of
theorem dn_listOf {xs : List Ab} (hm : X.mg "list" = none) (ha : DE X rs M ρ e (Is x)) (hs : Seqs X.K rs M x xs) (hg : Gl X "list" := by rfl) (he : starEach [e] X.env = (false, eval e X.env) :: starEach [] X.env := by rfl) :
    DN X rs M ρ (.Call (.Name "list" p) [e] [] pos) (fun as => as = xs) := dn_callTy cr_listS hg hm (by decide +kernel) (da_cons ha da_nil he) (fun as e1 => fun G H vs Q ok reps k => by
      subst e1
      match vs, reps with
      | [v], ⟨rv, _⟩ =>
        obtain ⟨q, ws, rfl, s, ra⟩ := hs.get ok rv
        exact ⟨q, ws, rfl, s, fun z hz => k z _ _ G _ rfl ra upd_same (ok.gnone hz) hz (Nxt.newM ok hz)⟩) (hs := he)
/-- list(range(n)) -/
theorem dn_listRange (hc : X.calm = true) (hm : X.mg "list" = none) (hm2 : X.mg "range" = none) (ha : DE X rs M ρ e (Is (aI i))) (h0 : 0 ≤ i) (h1 : i ≤ 100000) {p3 pos3 : Pos} (hg : Gl X "list" := by rfl) (hg2 : Gl X "range" := by rfl) (he : starEach [e] X.env = (false, eval e X.env) :: starEach [] X.env := by rfl)
    (he2 : starEach [Expr.Call (.Name "range" p3) [e] [] pos3] X.env = (false, eval (Expr.Call (.Name "range" p3) [e] [] pos3) X.env) :: starEach [] X.env := by rfl) :
    DN X rs M ρ (.Call (.Name "list" p) [.Call (.Name "range" p3) [e] [] pos3] [] pos) (fun as => as = (List.range i.toNat).map fun (k : Nat) => aI (k : Int)) :=
  pe_weak (pe_listRg hc hg hm (prg_1 hg2 hm2 ha he) he2) fun σ H Q ⟨G, l, ok, k⟩ => ⟨G, l, ok, fun v y G1 H1 ry rep n => by
    subst ry
    rw [rep_int rep]
    have ok1 := ok.nxt n
    refine ⟨i, rfl, ⟨by decide, by decide, by omega, by omega, by omega⟩, fun z hz => k z _ _ G1 _ rfl ?_ upd_same (ok1.gnone hz) (fresh_of ok n hz) (n.trans (Nxt.newM ok1 hz) ok)⟩
    have e1 : rgV 0 i = ((List.range i.toNat).map fun k => ((k : Nat) : Int)).map V.int := by
      unfold rgV
      rw [List.map_map, Int.sub_zero]
      exact List.map_congr_left fun k _ => by show V.int (0 + (k : Int)) = V.int (k : Int); rw [Int.zero_add]
    have e2 : ((List.range i.toNat).map fun (k : Nat) => aI (k : Int)) = ((List.range i.toNat).map fun k => ((k : Nat) : Int)).map aI := by
      rw [List.map_map]
      rfl
    rw [e1, e2]
    exact ints_repAll _⟩
/-- int(n), abs(n) -/
theorem de_intOf (hm : X.mg "int" = none) (ha : DE X rs M ρ e (Is (aI i))) (hg : Gl X "int" := by rfl) (he : starEach [e] X.env = (false, eval e X.env) :: starEach [] X.env := by rfl) : DE X rs M ρ (.Call (.Name "int" p) [e] [] pos) (Is (aI i)) :=
  de_callTy call_int1 hg hm (by decide +kernel) (da_cons ha da_nil he) (fun as e1 => fun G H vs Q ok reps k => by
    subst e1
    match vs, reps with
    | [v], ⟨rv, _⟩ =>
      rw [rep_int rv]
      exact .inl ⟨i, rfl, k _ _ G H rfl (Dp.int _) (Nxt.rfl ok)⟩) (hs := he)
theorem de_intOfB {c : Bool} (hm : X.mg "int" = none) (ha : DE X rs M ρ e (Is (aB c))) (hg : Gl X "int" := by rfl) (he : starEach [e] X.env = (false, eval e X.env) :: starEach [] X.env := by rfl) : DE X rs M ρ (.Call (.Name "int" p) [e] [] pos) (Is (aI (if c then 1 else 0))) :=
  de_callTy call_int1 hg hm (by decide +kernel) (da_cons ha da_nil he) (fun as e1 => fun G H vs Q ok reps k => by
    subst e1
    match vs, reps with
    | [v], ⟨rv, _⟩ =>
      rw [rep_bl rv]
      exact .inr ⟨c, rfl, k _ _ G H rfl (Dp.int _) (Nxt.rfl ok)⟩) (hs := he)
theorem de_abs (hm : X.mg "abs" = none) (ha : DE X rs M ρ e (Is (aI i))) (hg : Gl X "abs" := by rfl) (he : starEach [e] X.env = (false, eval e X.env) :: starEach [] X.env := by rfl) : DE X rs M ρ (.Call (.Name "abs" p) [e] [] pos) (Is (aI (if i < 0 then -i else i))) :=
  de_callB call_abs hg hm (by decide +kernel) (da_cons ha da_nil he) (fun as e1 => fun G H vs Q ok reps k => by
    subst e1
    match vs, reps with
    | [v], ⟨rv, _⟩ =>
      rw [rep_int rv]
      exact ⟨i, rfl, k _ _ G H rfl (Dp.int _) (Nxt.rfl ok)⟩) (hs := he)
/-- i.bit_length() -/
theorem de_bits {apos : Pos} (ha : DE X rs M ρ e (Is (aI i))) (hb : attributeBase e "bit_length" X.env (eval e X.env) = eval e X.env := by rfl) (hl : (apos.endLine == pos.line) = true := by rfl) :
    DE X rs M ρ (.Call (.Attribute e "bit_length" apos) [] [] pos) (Is (aI (Builtin.Int.intBits i : Nat))) := pe_weak (pe_bits ha hb hl) fun σ H Q ⟨G, l, ok, k⟩ => ⟨G, l, ok, fun v y G1 H1 ry rep n => by
      subst ry
      rw [rep_int rep]
      exact ⟨i, rfl, k _ _ G1 H1 rfl (Dp.int _) n⟩⟩

/-- xs + ys, xs * k: new lists -/
theorem dn_cat {xs ys : List Ab} (ha : DE X rs M ρ a (Is x)) (hb : DE X rs M ρ b (Is y)) (hx : SeqM X.K rs M x xs) (hy : SeqM X.K rs M y ys) (hl : xs.length + ys.length ≤ 100000) : DN X rs M ρ (.BinOp a .Add b pos) (fun as => as = xs ++ ys) :=
  dn_op op_cat ha hb fun _ _ e1 e2 => fun G H v u Q ok r1 r2 k => by
    subst e1 e2
    obtain ⟨p1, w1, rfl, s1, ra1⟩ := hx G H v ok r1
    obtain ⟨p2, w2, rfl, s2, ra2⟩ := hy G H u ok r2
    exact ⟨p1, p2, w1, w2, rfl, rfl, s1, s2, by rw [ra1.length, ra2.length]; exact Nat.le_trans hl (by decide), fun q hq => k q _ _ G _ rfl (ra1.append ra2) upd_same (ok.gnone hq) hq (Nxt.newM ok hq)⟩
theorem dn_rep {xs : List Ab} {k : Int} (ha : DE X rs M ρ a (Is x)) (hb : DE X rs M ρ b (Is (aI k))) (hx : SeqM X.K rs M x xs) (h1 : -(2 ^ 63) ≤ k) (h2 : k < 2 ^ 63) (hl : xs.length * k.toNat ≤ 100000) : DN X rs M ρ (.BinOp a .Mult b pos) (fun as => as = (List.replicate k.toNat xs).flatten) :=
  dn_op op_rep ha hb fun _ _ e1 e2 => fun G H v u Q ok r1 r2 kk => by
    subst e1 e2
    obtain ⟨p1, w1, rfl, s1, ra1⟩ := hx G H v ok r1
    rw [rep_int r2]
    exact ⟨p1, k, w1, rfl, rfl, s1, h1, h2, by rw [ra1.length]; exact Nat.le_trans hl (by decide), fun q hq => kk q _ _ G _ rfl (ra1.rep _) upd_same (ok.gnone hq) hq (Nxt.newM ok hq)⟩
end
/-! ### repr -/
mutual
theorem dp_noDict {K : PySem.W.Frag} {G : Hp} : ∀ (d : PyData) (v : V), L2.Dp K G v d → d.hasDict = false
  | .none, _, _ => by simp only [PyData.hasDict]
  | .bool _, _, _ => by simp only [PyData.hasDict]
  | .int _, _, _ => by simp only [PyData.hasDict]
  | .str _, _, _ => by simp only [PyData.hasDict]
  | .list ds, _, h => by
    cases h with
    | lst hs ha =>
      simp only [PyData.hasDict]
      exact dpAll_noDict ds _ ha
  | .tuple ds, _, h => by
    cases h with
    | tup hs ha =>
      simp only [PyData.hasDict]
      exact dpAll_noDict ds _ ha
  | .dict _, _, h => by cases h
theorem dpAll_noDict {K : PySem.W.Frag} {G : Hp} : ∀ (ds : List PyData) (vs : List V), L2.DpAll K G vs ds → PyData.hasDictAll ds = false
  | [], _, _ => by simp only [PyData.hasDictAll]
  | d :: ds, _, h => by
    cases h with
    | cons h1 h2 =>
      simp only [PyData.hasDictAll]
      rw [dp_noDict d _ h1, dpAll_noDict ds _ h2]
      rfl
end
/-- data that repr shows: how deep, how long at most -/
structure Sz (D L : Nat) (d : PyData) : Prop where
  sh : d.showable = true
  dp : d.depth ≤ D
  ln : d.shown.length ≤ L
theorem Sz.mono {D L D' L' : Nat} {d : PyData} (h : Sz D L d) (a : D ≤ D') (b : L ≤ L') : Sz D' L' d := ⟨h.sh, Nat.le_trans h.dp a, Nat.le_trans h.ln b⟩
theorem log2_lt_pow {n k : Nat} (hk : 0 < k) (h : n < 2 ^ k) : n.log2 < k := PySem.Flt.log2_lt_of hk h
theorem sz_int {i : Int} (k : Nat) (h : i.natAbs < 2 ^ k) (h0 : 0 < k) (hk : k ≤ 1900) : Sz 0 (k + 1) (.int i) := by
  have hl : i.natAbs.log2 < k := log2_lt_pow h0 h
  refine ⟨by simp only [PyData.showable]; exact decide_eq_true (by omega), by simp [PyData.depth], ?_⟩
  rw [PyData.shown_int]
  rw [show (Str.ofString (toString i)).length = (toString i).length from PySem.ofString_length _]
  exact PySem.int_text_length_le h0 hl
theorem sz_all {D L : Nat} : ∀ {ds : List PyData}, (∀ d ∈ ds, Sz D L d) → PyData.showableAll ds = true ∧ PyData.depthAll ds ≤ D ∧ ((PyData.shownAll ds).map (·.length)).sum ≤ ds.length * L
  | [], _ => ⟨by simp only [PyData.showableAll], by simp [PyData.depthAll], by simp [PyData.shownAll]⟩
  | d :: ds, h => by
    obtain ⟨h1, h2, h3⟩ := sz_all (ds := ds) fun x hx => h x (List.mem_cons_of_mem _ hx)
    have hd := h d List.mem_cons_self
    refine ⟨?_, ?_, ?_⟩
    · simp only [PyData.showableAll]
      rw [hd.sh, h1]
      rfl
    · simp only [PyData.depthAll]
      exact Nat.max_le.mpr ⟨hd.dp, h2⟩
    · rw [PyData.shownAll_cons, List.map_cons, List.sum_cons, List.length_cons, Nat.succ_mul]
      have := hd.ln
      omega
theorem sz_tup {D L : Nat} {ds : List PyData} (h : ∀ d ∈ ds, Sz D L d) : Sz (D + 1) (ds.length * (L + 2) + 3) (.tuple ds) := by
  obtain ⟨h1, h2, h3⟩ := sz_all h
  refine ⟨by simp only [PyData.showable]; exact h1, by simp only [PyData.depth]; omega, ?_⟩
  have h4 := PySem.tupleText_len_le (PyData.shownAll ds)
  rw [PyData.shownAll_length] at h4
  show (PyData.shown (.tuple ds)).length ≤ _
  simp only [PyData.shown]
  rw [Nat.mul_add]
  omega
theorem sz_list {D L : Nat} {ds : List PyData} (h : ∀ d ∈ ds, Sz D L d) : Sz (D + 1) (ds.length * (L + 2) + 3) (.list ds) := by
  obtain ⟨h1, h2, h3⟩ := sz_all h
  refine ⟨by simp only [PyData.showable]; exact h1, by simp only [PyData.depth]; omega, ?_⟩
  have h4 := PySem.listText_len_le (PyData.shownAll ds)
  rw [PyData.shownAll_length] at h4
  show (PyData.shown (.list ds)).length ≤ _
  simp only [PyData.shown]
  rw [Nat.mul_add]
  omega
section
variable {X : Cx} {rs : Rs} {M : Mem} {ρ : List (Option Ab)} {e : Expr} {pos p : Pos} {R Ra : Ab → Prop} {x : Ab}
def rRepr (K : PySem.W.Frag) : List V → Hp → VK → Prop := fun xs H Q => ∃ v d, xs = [v] ∧ L2.Dp K H v d ∧ ((∃ ds, d = .list ds) ∨ (∃ ds, d = .tuple ds) ∨ ∃ i, d = .int i) ∧ Sz 50 10000000 d ∧ Q (.str d.shown) H
theorem cr_repr (gd : X.A.guards = some []) (hu : X.A.units + 64 < cLine) : CallR X (.builtin "repr") (rRepr X.K) := by
  intro pins s σ H xs us Q I r h
  obtain ⟨v, d, rfl, hd, kind, sz, q⟩ := h
  obtain ⟨u, rfl, ru⟩ := vals1 r
  obtain ⟨as, rd⟩ := L2.Dp.reads I d v u hd ru
  have nod : d.hasDict = true → sysModules ∉ as := fun z => by rw [dp_noDict d v hd] at z; cases z
  have fits : d.shown.length ≤ sizeLine := Nat.le_trans sz.ln (by decide)
  have deep := sz.dp
  have byRef : ∀ a, u = .ref a → wpAny (model X.prog X.w) X.A (call (.builtin "repr") [u]) (EP X pins σ Q) X.xe s := by
    intro a ea
    subst ea
    exact repr_of_reads' rd sz.sh nod gd (by omega) (fun _ _ e => e) (fun h' t tk keep => ⟨.str d.shown, H, I.kept keep, ⟨t, rfl⟩, q⟩) fits
  rcases kind with ⟨ds, rfl⟩ | ⟨ds, rfl⟩ | ⟨i, rfl⟩
  · cases hd with
    | lst hs ha => exact byRef _ ru
  · cases hd with
    | tup hs ha => exact byRef _ ru
  · cases hd
    obtain ⟨t, rfl⟩ := ru
    have hz : i.natAbs.log2 < 1920 := by
      have z := sz.sh
      simp only [PyData.showable] at z
      exact of_decide_eq_true z
    refine PySem.P.repr_of_int hz ⟨.str _, H, I.tok _, ⟨_, rfl⟩, ?_⟩
    rw [PyData.shown_int] at q
    exact q
abbrev aR (d : PyData) : Ab := aS d.shown
theorem de_repr {d : PyData} (gd : X.A.guards = some []) (hu : X.A.units + 64 < cLine) (hm : X.mg "repr" = none) (ha : DE X rs M ρ e (Is x)) (hx : View X.K rs M x d) (kind : (∃ ds, d = .list ds) ∨ (∃ ds, d = .tuple ds) ∨ ∃ i, d = .int i) (sz : Sz 50 10000000 d) (hg : Gl X "repr" := by rfl)
    (he : starEach [e] X.env = (false, eval e X.env) :: starEach [] X.env := by rfl) : DE X rs M ρ (.Call (.Name "repr" p) [e] [] pos) (Is (aR d)) :=
  de_callB (cr_repr gd hu) hg hm (by decide +kernel) (da_cons ha da_nil he) (fun as e1 => fun G H vs Q ok reps k => by
    subst e1
    match vs, reps with
    | [v], ⟨rv, _⟩ => exact ⟨v, d, rfl, hx G H v ok rv, kind, sz, k _ _ G H rfl (Dp.str _) (Nxt.rfl ok)⟩) (hs := he)
/-- of data told by a word -/
theorem de_reprR (gd : X.A.guards = some []) (hu : X.A.units + 64 < cLine) (hm : X.mg "repr" = none) (ha : DE X rs M ρ e Ra) (hx : ∀ x, Ra x → ∃ d, x = .d d ∧ ((∃ ds, d = .list ds) ∨ (∃ ds, d = .tuple ds) ∨ ∃ i, d = .int i) ∧ Sz 50 10000000 d ∧ R (aR d)) (hg : Gl X "repr" := by rfl)
    (he : starEach [e] X.env = (false, eval e X.env) :: starEach [] X.env := by rfl) : DE X rs M ρ (.Call (.Name "repr" p) [e] [] pos) R :=
  de_callB (T := fun as => ∃ y, as = [y] ∧ Ra y) (cr_repr gd hu) hg hm (by decide +kernel) (da_consR ha da_nil (fun y ys h1 h2 => ⟨y, by rw [h2], h1⟩) he) (fun as ⟨y, e1, hy⟩ => fun G H vs Q ok reps k => by
    subst e1
    obtain ⟨d, rfl, kind, sz, r⟩ := hx y hy
    match vs, reps with
    | [v], ⟨rv, _⟩ => exact ⟨v, d, rfl, (dp_same ok.gh _ _ rv).old, kind, sz, k _ _ G H r (Dp.str _) (Nxt.rfl ok)⟩) (hs := he)
end
end HW
/-! Own layer, part E: enumerate of a tuple. -/
namespace HW
open PySem PySem.Spec PyProof.Rows L2 RZ

theorem meets_enum1 {v : Value} {o : Obj} {F : Heap → Prop} (B : Begins v o F) :
    Meets (Builtin.«enumerate.__new__» { pos := [.type "enumerate", v], kw := [] }) (fun _ R s => F s.heap ∧
      R (.ok (.ret (.ref (s.heap.push o).objs.size))) { s with heap := Heap.push (s.heap.push o) { cls := .type "enumerate", data := .fields #[.none, .bool false, .ref s.heap.objs.size, rawInt 0, .none, .none] } }) := by
  refine Meets.of_wp ?_
  intro prog w A R s both
  obtain ⟨hp, gs, dr, tk, os⟩ := s
  obtain ⟨holds, fin⟩ := both
  have below := sub_enumerate
  have begin_ : ∀ {B' : Around} {E Q : Value → Shared → Prop}, Q (.ref hp.objs.size) { heap := hp.push o, gens := gs, drawn := dr, toks := tk, os := os } → wpAny (model prog w) B' (pyIter v) Q E { heap := hp, gens := gs, drawn := dr, toks := tk, os := os } := by
    intro B' E Q q
    exact B.iter prog w B' E { heap := hp, gens := gs, drawn := dr, toks := tk, os := os } Q holds q
  wp_walk using begin_
  refine wpAny_stack_any (fun st => wpAny_pure ?_)
  split
  · rename_i c _ _ _ _ _
    cases (c == Value.type "enumerate") <;> (wp_walk using begin_; exact ⟨_, rfl, fin⟩)
  · wp_walk using begin_
    exact ⟨_, rfl, fin⟩
section
variable {prog : Program} {w : World} {A : Around} {E : Value → Shared → Prop} {s : Shared}
theorem enum1_call {v : Value} {o : Obj} {F : Heap → Prop} {Q : Value → Shared → Prop} (B : Begins v o F) (holds : F s.heap)
    (fin : ∀ h', IsEnum h' (s.heap.objs.size + 1) s.heap.objs.size 0 .none → h'.get? s.heap.objs.size = some o → (∀ b o', s.heap.get? b = some o' → h'.get? b = some o') → Q (.ref (s.heap.objs.size + 1)) { s with heap := h' }) :
    wpAny (model prog w) A (call (.type "enumerate") [v]) Q E s := by
  refine callType_new PySem.F.called_enumerate (by decide) (PySem.F.typeCall_enumerate_1 _) (PySem.F.newCall_enumerate_1 _) (fun ob => PySem.F.args_object_init_2 ob _) PySem.F.entry_enumerate_new (meets_enum1 B) (And.intro holds ?_)
  have one : Array.size (Heap.objs (s.heap.push o)) = s.heap.objs.size + 1 := Heap.size_push ..
  have rec_ := Heap.get?_push_size (s.heap.push o) (o := { cls := .type "enumerate", data := .fields #[.none, .bool false, .ref s.heap.objs.size, rawInt 0, .none, .none] }) rfl
  show _ ∧ _
  rw [one] at rec_ ⊢
  exact And.intro ⟨_, rec_, rfl⟩ (fin _ rec_ (Heap.get?_push_of_some _ (Heap.get?_push_size _ B.free)) (fun b o' e => Heap.get?_push_of_some _ (Heap.get?_push_of_some _ e)))
end

/-- the tuple at a as it stands at each turn, its items in new pairs -/
def ItU (K : PySem.W.Frag) (a : Addr) : It where
  go := fun i H => ∃ (xs : List V) (x : V), SqT K H a xs ∧ xs[i]? = some x
  yld := fun i H v H' => ∃ T x, v = .ref T ∧ H T = none ∧ H' = upd H T (.tup [.int (i : Nat), x]) ∧ ∀ xs, SqT K H a xs → xs[i]? = some x
  stop := fun i H => ∃ xs : List V, SqT K H a xs ∧ xs.length = i
theorem turn_enumU {P : Program} {w : World} {K : PySem.W.Frag} {elts : List Expr} {kk : Nat} {tpos : Pos} (a e it : Addr) :
    Turn P w K (.Tuple elts kk tpos) (ItU K a) [e, it] e (fun i h => (∃ old, IsEnum h e it ((i : Nat) : Int) old) ∧ h.IsTupleIter it a i ∧ e ≠ it ∧ a ≠ it ∧ a ≠ e) where
  mem := List.mem_cons_self
  obj := by
    intro i h st b hb
    obtain ⟨⟨old, he⟩, ⟨o, ho, hc, hd⟩, _⟩ := st
    rcases List.mem_cons.mp hb with z | z
    · refine ⟨_, z ▸ he, fun v q => ?_⟩
      cases q
    · exact ⟨o, (List.mem_singleton.mp z) ▸ ho, fun v q => by rw [hd] at q; cases q⟩
  keep := by
    intro i h h' st k
    obtain ⟨⟨old, he⟩, hit, rest⟩ := st
    exact ⟨⟨old, k e List.mem_cons_self _ he⟩, hit.at fun o q => k it (List.mem_cons_of_mem _ List.mem_cons_self) o q, rest⟩
  item := by
    intro X hP hw hK hc i pins s σ H E I hf st hg
    subst hP hw hK
    obtain ⟨⟨old, he⟩, hit, n1, n2, n3⟩ := st
    obtain ⟨xs, x, hq, hx⟩ := hg
    obtain ⟨its, rv, pt, hz⟩ := I.tuple hq
    have hlt : i < its.toArray.size := by
      have := (List.getElem?_eq_some_iff.mp hx).1
      rw [List.size_toArray, ← rv.length]
      exact this
    have el : e < s.heap.objs.size := Heap.lt_size he
    have il : it < s.heap.objs.size := by
      obtain ⟨_, q, _⟩ := hit
      exact Heap.lt_size q
    have D : Draws X.prog X.w X.A.in1 it [it, a] its.toArray.size (fun j v => its.toArray[j]? = some v) (fun j h => h.IsTupleIter it a j ∧ h.IsTuple a its.toArray) := Draws.tuple (show X.A.in1.handled = none from I.ok.hd hc) it a n2 _
    refine wpAny_pyNext_enum_itemD D he (And.intro hit (show s.heap.IsTuple a its.toArray from pt)) hlt n1 (by simp [n1, n3.symm]) fun u h' tk hu ho hst hT hsz hk => ?_
    refine ⟨_, rfl, wpAny_letOwnedTupleGo_enum (s := { s with heap := h', toks := tk + 1 }) ho fun h2 he2 sb => ?_⟩
    obtain ⟨y, hy, ry⟩ : ∃ y, xs[i]? = some y ∧ RelV y u := by
      obtain ⟨u', hu', ru'⟩ := rv.get hx
      have : u' = u := by
        have z : its.toArray[i]? = some u' := by simpa using hu'
        rw [hu] at z
        exact (Option.some.inj z).symm
      exact ⟨x, hx, this ▸ ru'⟩
    have hT2 : h2.get? s.heap.objs.size = some { cls := .type "tuple", data := .seq #[.int i tk, u] } := (sb.2 _ (Nat.ne_of_gt el)).trans hT
    have new : ObjOk X.prog X.w (upd H s.heap.objs.size (.tup [.int (i : Nat), y])) h2 s.heap.objs.size (.tup [.int (i : Nat), y]) :=
      And.intro (by show 2 ≤ sizeLine; decide) ⟨[.int i tk, u], .cons ⟨_, rfl⟩ (.cons ry .nil), ⟨_, hT2, rfl, _, rfl⟩⟩
    have I1 : Inv X pins σ (upd H s.heap.objs.size (.tup [.int (i : Nat), y])) { s with heap := h2, toks := tk + 1 } :=
      I.turnedNew (ch := [e, it]) (fun b ob hb q => (sb.2 b fun z => hb (z ▸ List.mem_cons_self)).trans (hk b ob (fun z => hb (z ▸ List.mem_cons_self)) (fun z => hb (z ▸ List.mem_cons_of_mem _ List.mem_cons_self)) q)) hf (Nat.le_refl _) new
    refine ⟨.ref s.heap.objs.size, _, I1, rfl, ⟨_, y, rfl, I.hok.fresh (Nat.le_refl _), rfl, fun ys hys => by rw [I.tuple_inj hys hq]; exact hy⟩, ⟨⟨u, ?_⟩, hst.1.at fun o q => (sb.2 it (Ne.symm n1)).trans q, n1, n2, n3⟩, fun b hb => ?_⟩
    · rw [show ((i + 1 : Nat) : Int) = (i : Int) + 1 by omega]
      exact he2
    · have hb' : b < s.heap.objs.size := by
        rcases List.mem_cons.mp hb with z | z
        · exact z ▸ el
        · exact (List.mem_singleton.mp z) ▸ il
      rw [upd_ne (Nat.ne_of_lt hb')]
      exact (hf b hb).1
  done := by
    intro X hP hw hK hc i pins s σ H E I hf st hg
    subst hP hw hK
    obtain ⟨⟨old, he⟩, hit, n1, n2, n3⟩ := st
    obtain ⟨xs, hq, hx⟩ := hg
    obtain ⟨its, rv, pt, hz⟩ := I.tuple hq
    obtain ⟨f0, f1, f2, f3, f4, f5⟩ := hf it (List.mem_cons_of_mem _ List.mem_cons_self)
    have D : Draws X.prog X.w X.A.in1 it [it, a] its.toArray.size (fun j v => its.toArray[j]? = some v) (fun j h => h.IsTupleIter it a j ∧ h.IsTuple a its.toArray) := Draws.tuple (show X.A.in1.handled = none from I.ok.hd hc) it a n2 _
    have here : i = its.toArray.size := by
      rw [List.size_toArray, ← rv.length, hx]
    exact wpAny_pyNext_enum_endD D he (And.intro (here ▸ hit) (show s.heap.IsTuple a its.toArray from pt)) fun h' eb => And.intro rfl (I.turned (t' := s.toks) (fun b o hb q => eb b o hb q) f0 f1 f3 f4 f5)
  self := by
    intro A i s Q E st h
    obtain ⟨⟨_, he⟩, _⟩ := st
    exact wpAny_pyIter_enum he h
def iEnumU (K : PySem.W.Frag) (ta : TA) : TI := fun σ H R => ta σ H fun vs H1 => ∃ a xs, vs = [.ref a] ∧ SqT K H1 a xs ∧ R (ItU K a) H1
section
variable {X : Cx} {rs : Rs} {M : Mem} {ρ : List (Option Ab)} {e : Expr} {p pos tpos : Pos} {elts : List Expr} {kk : Nat} {RI : Nat → (Nat → Ab → Prop) → Prop}
theorem pi_enumU {ta : TA} (hg : Gl X "enumerate") (hm : X.mg "enumerate" = none) (ha : PA X [e] ta) (hs : starEach [e] X.env = [(false, eval e X.env)] := by rfl) : PI X (.Tuple elts kk tpos) (.Call (.Name "enumerate" p) [e] [] pos) (iEnumU X.K ta) := by
  constructor
  intro pins s σ H R I h
  refine Call_ (ld_blt I hg hm boot_enumerate (PyProof.Rows.callWith_type1 (thn (ha.run pos pins s σ H _ I h) fun us s1 got => ?_) hs rfl))
  obtain ⟨vs, H1, I1, r1, a, xs, same, hq, fin⟩ := got
  subst same
  match us, r1 with
  | [_], .cons (a := V.ref _) same .nil =>
    have same : _ = Value.ref a := same
    subst same
    obtain ⟨its, rv, pt, hz⟩ := I1.tuple hq
    have there : a < s1.heap.objs.size := by
      obtain ⟨o, q, _⟩ := pt
      exact Heap.lt_size q
    refine enum1_call (begins_tuple a its.toArray) (show s1.heap.IsTuple a its.toArray from pt) fun h' he hit hk => wpAny_pyIter_enum he ?_
    have I2 : Inv X pins σ H1 { s1 with heap := h' } := I1.kept (t' := s1.toks) hk
    refine ⟨s1.heap.objs.size + 1, [s1.heap.objs.size + 1, s1.heap.objs.size], _, _, H1, rfl, I2, turn_enumU a (s1.heap.objs.size + 1) s1.heap.objs.size, ⟨⟨.none, he⟩, ⟨_, hit, rfl, rfl⟩, Nat.succ_ne_self _, Nat.ne_of_lt there, Nat.ne_of_lt (Nat.lt_succ_of_lt there)⟩, fun b hb => ?_, fin⟩
    have le : s1.heap.objs.size ≤ b := by
      rcases List.mem_cons.mp hb with z | z
      · exact z ▸ Nat.le_succ _
      · exact (List.mem_singleton.mp z) ▸ Nat.le_refl _
    exact I1.fpOk le (I1.hok.fresh le)
theorem itOk_enumU {K : PySem.W.Frag} {G : Hp} {a : Addr} {xs : List V} {ds : List PyData} (hx : SqT K G a xs) (rx : DpAll K G xs ds) : ItOk K G (ItU K a) ds.length (AtE ds) := fun rs M G1 H1 e ok => by
  have h1 : SqT K H1 a xs := sqT_same (e.trans ok.gh) hx
  have rx' := repAll_dp.mpr rx
  have lx : xs.length = ds.length := by rw [rx'.length, List.length_map]
  refine ⟨fun i hi => ?_, xs, h1, lx⟩
  obtain ⟨x, ex⟩ := getD_some (xs := xs) (i := i) (by omega)
  refine ⟨⟨xs, x, h1, ex⟩, fun v H2 yl => ?_⟩
  obtain ⟨T, x', rfl, hT, rfl, f1⟩ := yl
  obtain ⟨d', hd, rd⟩ := rx'.get' (f1 xs h1)
  rw [List.getElem?_map] at hd
  match qd : ds[i]?, hd with
  | some d, hd =>
    have hd : Ab.d d = d' := Option.some.inj hd
    subst hd
    obtain ⟨r, n⟩ := pair_nxt (x := .int (i : Int)) (d := .int (i : Int)) ok hT (Dp.int _) (dp_same e _ _ rd)
    exact ⟨_, _, ⟨d, qd, rfl⟩, r, n⟩
theorem di_enumT {T : List Ab → Prop} (hg : Gl X "enumerate") (hm : X.mg "enumerate" = none) (ha : DA X rs M ρ [e] T) (w : ∀ as, T as → ∃ ds, as = [aT ds] ∧ RI ds.length (AtE ds)) (hs : starEach [e] X.env = [(false, eval e X.env)] := by rfl) :
    DI X rs M ρ (.Tuple elts kk tpos) (.Call (.Name "enumerate" p) [e] [] pos) RI :=
  pi_weak (pi_enumU hg hm ha hs) fun σ H T ⟨G, l, ok, k⟩ => ⟨G, l, ok, fun vs as G1 H1 ry rep n => by
    obtain ⟨ds, rfl, ri⟩ := w as ry
    match vs, rep with
    | [v], ⟨r, _⟩ =>
      have r : Dp X.K G1 v (.tuple ds) := r
      cases r with
      | tup hx rx => exact ⟨_, _, rfl, sqT_same n.gh hx, k _ _ _ G1 H1 ri (itOk_enumU hx rx) n⟩⟩
end
end HW
/-! Own layer, part F: defs as they stand behind the top; the deck of the laws; small mathematics. -/
namespace HW
open PySem PySem.Spec PyProof.Rows L2 RZ

structure Df (K : PySem.W.Frag) (mg : Str → Option Value) (x : Str) (st : Stmt) : Type where
  f : Addr
  fd : FuncData
  F : Fun K x x st f fd
  g : mg x = some (.ref f)

/-! ### the deck -/
def deckRs (D C : Addr) : Rs where
  F := fun b => b = D ∨ b = C
  I := fun H => ∃ (cells : List Int) (m c : Int), H D = some (.lst [.ref C, .int m, .int c]) ∧ H C = some (.lst (cells.map V.int)) ∧ cells.length ≤ 63
  has := fun H b ⟨cells, m, c, h1, h2, _⟩ f => by
    rcases f with f | f
    · exact ⟨_, f ▸ h1⟩
    · exact ⟨_, f ▸ h2⟩
  st := fun H H' ⟨cells, m, c, h1, h2, h3⟩ k => ⟨cells, m, c, k D _ (.inl rfl) h1, k C _ (.inr rfl) h2, h3⟩
def deckM (D C : Addr) (cells : List Int) (m c : Int) : Mem := [⟨D, true, .lst [.at C, aI m, aI c]⟩, ⟨C, true, .lst ((cells.map .int).map .d)⟩]
theorem deck_open {K : PySem.W.Frag} {D C : Addr} {M : Mem} {G H : Hp} (ok : Ok K (deckRs D C) M G H) : ∃ cells m c, Ok K rs0 (deckM D C cells m c) G H ∧ cells.length ≤ 63 := by
  obtain ⟨cells, m, c, h1, h2, h3⟩ := ok.i
  refine ⟨cells, m, c, ⟨ok.gh, fun _ h => h.elim, trivial, fun e he => ?_, fun j k e f hj hk hp => ?_⟩, h3⟩
  · rcases List.mem_cons.mp he with rfl | he
    · exact ⟨ok.sep D (.inl rfl), fun h => h, _, h1, rfl, Dp.int m, Dp.int c, trivial⟩
    · cases List.mem_singleton.mp he
      exact ⟨ok.sep C (.inr rfl), fun h => h, _, h2, by rw [List.map_map]; exact ints_repAll cells⟩
  · have ne : D ≠ C := by
      rintro rfl
      rw [h1] at h2
      injection h2 with h2
      injection h2 with h2
      match cells, h2 with
      | n :: r, h2 =>
        rw [List.map_cons] at h2
        injection h2 with h2 _
        cases h2
    match j, k, hj, hk with
    | 0, 0, _, _ => rfl
    | 1, 1, _, _ => rfl
    | 0, 1, hj, hk =>
      cases hj
      cases hk
      exact absurd hp ne
    | 1, 0, hj, hk =>
      cases hj
      cases hk
      exact absurd hp.symm ne
    | 0, k + 2, _, hk => cases hk
    | 1, k + 2, _, hk => cases hk
    | j + 2, _, hj, _ => cases hj
theorem deck_close {K : PySem.W.Frag} {D C : Addr} {rs : Rs} {cells : List Int} {m c : Int} {G H : Hp} (ok : Ok K rs (deckM D C cells m c) G H) (hl : cells.length ≤ 63) : (deckRs D C).I H := by
  obtain ⟨_, _, vs, e1, r1⟩ := ok.m _ List.mem_cons_self
  obtain ⟨_, _, ws, e2, r2⟩ := ok.m _ (List.mem_cons_of_mem _ List.mem_cons_self)
  rw [List.map_map] at r2
  have e3 := repAll_ints r2
  subst e3
  match vs, r1 with
  | [a, b, d], ⟨q1, q2, q3, _⟩ =>
    have q1 : a = .ref C := q1
    rw [q1, rep_int q2, rep_int q3] at e1
    exact ⟨cells, m, c, e1, e2, hl⟩

theorem lay_ints : ∀ ns : List Int, PyData.canLayAll0 (ns.map .int) = true ∧ PyData.depthAll (ns.map .int) = 0
  | [] => ⟨by simp [PyData.canLayAll0], by simp [PyData.depthAll]⟩
  | n :: ns => by
    obtain ⟨h1, h2⟩ := lay_ints ns
    simp only [List.map_cons, PyData.canLayAll0, PyData.depthAll, PyData.canLay0, PyData.depth, h1, h2]
    exact ⟨rfl, rfl⟩
theorem shaped_ints (ns : List Int) : SeqAt.shaped (.list (ns.map .int)) = true := by
  obtain ⟨h1, h2⟩ := lay_ints ns
  unfold SeqAt.shaped
  simp only [PyData.canLay0, PyData.depth, h1, h2]
  rfl
theorem eqv_nil (ns : List Int) : PyData.eqv (.list (ns.map .int)) (.list []) = ns.isEmpty := by
  cases ns <;> simp [PyData.eqv, PyData.eqvAll]
def deckCell (x : Int) : Int := 2 * (if x < 0 then -x else x) + (if decide (x < 0) = true then 1 else 0)
/-- a number drawn below many -/
def Below (many : Int) : Ab → Prop := fun a => ∃ r, a = aI r ∧ 0 ≤ r ∧ r < many
/-- the promise of what makes a deck: its two lists are new, and no part of what stays -/
def SpecDeck (K : PySem.W.Frag) : Sp := fun vs H Q _ => ∃ (ns : List Int) (G : Hp) (v : V), vs = [v] ∧ Rep K G v (aScr K ns) ∧ ns.length ≤ 63 ∧ Ok K rs0 [] G H ∧ ∀ D C G' H', Nxt rs0 G H G' H' → (deckRs D C).I H' → G' D = none → G' C = none → H D = none → H C = none → Q (.ref D) H'
theorem ixN_nat {n j : Nat} (h : j < n) : ixN n (j : Int) = some j := by
  unfold ixN
  rw [if_pos (Int.natCast_nonneg j), if_pos (by omega)]
  rfl
theorem log2_small {i : Int} {k : Nat} (h0 : 0 ≤ i) (hk : 0 < k) (h : i < 2 ^ k) : i.natAbs.log2 < k := log2_lt_pow hk (by
  have e : ((2 ^ k : Nat) : Int) = 2 ^ k := by norm_cast
  omega)
/-! ### small mathematics -/
theorem two_pow_pos (k : Nat) : (0 : Int) < 2 ^ k := Int.pow_pos (by decide)
theorem int_lt_of_pow {x : Int} {k : Nat} (h0 : 0 ≤ x) (h : x < 2 ^ k) : x.natAbs < 2 ^ k := by
  have e : ((2 ^ k : Nat) : Int) = 2 ^ k := by norm_cast
  omega
/-- the bit of an int at a level -/
def bitI (x : Int) (k : Nat) : Int := x / 2 ^ k % 2
theorem bitI_range (x : Int) (k : Nat) : 0 ≤ bitI x k ∧ bitI x k < 2 := ⟨Int.emod_nonneg _ (by decide), Int.emod_lt_of_pos _ (by decide)⟩
theorem band_one {x : Int} (h : 0 ≤ x) : Builtin.bitAnd x 1 = x % 2 := by
  obtain ⟨n, rfl⟩ := Int.eq_ofNat_of_zero_le h
  show ((n &&& 1 : Nat) : Int) = _
  rw [Nat.and_one_is_mod]
  omega
/-- the number of a column -/
def colI : List Int → Nat → Int
  | [], _ => 0
  | x :: r, k => bitI x k + 2 * colI r k
theorem colI_snoc (k : Nat) (x : Int) : ∀ xs : List Int, colI (xs ++ [x]) k = colI xs k + bitI x k * 2 ^ xs.length
  | [] => by simp [colI]
  | y :: r => by
    rw [List.cons_append, colI, colI, colI_snoc k x r, List.length_cons, Int.pow_succ]
    have : 2 * (bitI x k * 2 ^ r.length) = bitI x k * (2 ^ r.length * 2) := by rw [Int.mul_comm 2, Int.mul_assoc]
    omega
theorem colI_range (k : Nat) : ∀ xs : List Int, 0 ≤ colI xs k ∧ colI xs k < 2 ^ xs.length
  | [] => by simp [colI]
  | x :: r => by
    have h := colI_range k r
    have b := bitI_range x k
    rw [colI, List.length_cons, Int.pow_succ]
    omega
theorem take_snoc {α : Type} {xs : List α} {i : Nat} {x : α} (h : xs[i]? = some x) : xs.take (i + 1) = xs.take i ++ [x] := by
  rw [List.take_add_one, h]
  rfl

/-! ### bits -/
theorem testBit_int {x : Int} (h : 0 ≤ x) (k : Nat) : (x.toNat.testBit k) = decide (bitI x k = 1) := by
  obtain ⟨n, rfl⟩ := Int.eq_ofNat_of_zero_le h
  show n.testBit k = _
  rw [Nat.testBit_eq_decide_div_mod_eq]
  unfold bitI
  have e : ((n : Int) / 2 ^ k % 2) = ((n / 2 ^ k % 2 : Nat) : Int) := by
    rw [Int.natCast_emod, Int.natCast_ediv]
    norm_cast
  rw [e]
  by_cases q : n / 2 ^ k % 2 = 1
  · rw [q]
    decide
  · rw [decide_eq_false q, decide_eq_false]
    intro z
    exact q (by exact_mod_cast z)
/-- all places in which two rows of words differ -/
def diffN : List Int → List Int → Nat
  | x :: r, y :: t => (x.toNat ^^^ y.toNat) ||| diffN r t
  | _, _ => 0
theorem diffN_snoc (x y : Int) : ∀ (xs ys : List Int), xs.length = ys.length → diffN (xs ++ [x]) (ys ++ [y]) = diffN xs ys ||| (x.toNat ^^^ y.toNat)
  | [], [], _ => by simp [diffN]
  | a :: r, b :: t, h => by
    rw [List.cons_append, List.cons_append, diffN, diffN, diffN_snoc x y r t (by simpa using h), Nat.or_assoc]
  | [], _ :: _, h => by cases h
  | _ :: _, [], h => by cases h
theorem diffN_bit (k : Nat) : ∀ (xs ys : List Int), xs.length = ys.length → (∀ x ∈ xs, 0 ≤ x) → (∀ y ∈ ys, 0 ≤ y) → ((diffN xs ys).testBit k = false ↔ colI xs k = colI ys k)
  | [], [], _, _, _ => by simp [diffN, colI]
  | x :: r, y :: t, h, hx, hy => by
    have ih := diffN_bit k r t (by simpa using h) (fun z hz => hx z (List.mem_cons_of_mem _ hz)) fun z hz => hy z (List.mem_cons_of_mem _ hz)
    have bx := bitI_range x k
    have by' := bitI_range y k
    rw [diffN, colI, colI, Nat.testBit_or, Nat.testBit_xor, testBit_int (hx x List.mem_cons_self), testBit_int (hy y List.mem_cons_self), Bool.or_eq_false_iff, ih]
    constructor
    · rintro ⟨h1, h2⟩
      have : bitI x k = bitI y k := by
        by_cases q : bitI x k = 1 <;> by_cases q2 : bitI y k = 1 <;> simp [q, q2] at h1 <;> omega
      omega
    · intro e
      have : bitI x k = bitI y k ∧ colI r k = colI t k := by omega
      refine ⟨?_, this.2⟩
      rw [this.1]
      simp
  | [], _ :: _, h, _, _ => by cases h
  | _ :: _, [], h, _, _ => by cases h
/-- the least level with a bit -/
theorem low_bit : ∀ (t X : Nat), (∀ j, j < t → X.testBit j = false) → X.testBit t = true → X - (X &&& (X - 1)) = 2 ^ t
  | 0, X, _, h => by
    have h1 : X % 2 = 1 := by simpa using h
    obtain ⟨m, rfl⟩ : ∃ m, X = 2 * m + 1 := ⟨X / 2, by omega⟩
    have e : (2 * m + 1) &&& (2 * m + 1 - 1) = 2 * m := by
      apply Nat.eq_of_testBit_eq
      intro i
      cases i with
      | zero => simp
      | succ i =>
        rw [Nat.testBit_and, Nat.testBit_succ, Nat.testBit_succ, Nat.testBit_succ]
        have e1 : (2 * m + 1) / 2 = m := by omega
        have e2 : (2 * m + 1 - 1) / 2 = m := by omega
        have e3 : 2 * m / 2 = m := by omega
        rw [e1, e2, e3, Bool.and_self]
    rw [e]
    omega
  | t + 1, X, h0, h => by
    have h1 : X % 2 = 0 := by
      have := h0 0 (by omega)
      simpa using this
    obtain ⟨Y, rfl⟩ : ∃ Y, X = 2 * Y := ⟨X / 2, by omega⟩
    have hY : Y.testBit t = true := by
      rw [Nat.testBit_succ] at h
      have e3 : 2 * Y / 2 = Y := by omega
      rw [e3] at h
      exact h
    have ih := low_bit t Y (fun j hj => by
      have := h0 (j + 1) (by omega)
      rw [Nat.testBit_succ] at this
      have e3 : 2 * Y / 2 = Y := by omega
      rw [e3] at this
      exact this) hY
    have pos : 0 < Y := by
      rcases Nat.eq_zero_or_pos Y with z | z
      · subst z
        simp at hY
      · exact z
    have e : (2 * Y) &&& (2 * Y - 1) = 2 * (Y &&& (Y - 1)) := by
      apply Nat.eq_of_testBit_eq
      intro i
      cases i with
      | zero => simp
      | succ i =>
        rw [Nat.testBit_and, Nat.testBit_succ, Nat.testBit_succ, Nat.testBit_succ]
        have e1 : 2 * Y / 2 = Y := by omega
        have e2 : (2 * Y - 1) / 2 = Y - 1 := by omega
        have e3 : 2 * (Y &&& (Y - 1)) / 2 = Y &&& (Y - 1) := by omega
        rw [e1, e2, e3, Nat.testBit_and]
    rw [e, Nat.pow_succ]
    have : Y &&& (Y - 1) ≤ Y := Nat.and_le_left
    omega
theorem band_neg {x : Int} (h : 0 < x) : Builtin.bitAnd x (-x) = ((x.toNat - (x.toNat &&& (x.toNat - 1)) : Nat) : Int) := by
  obtain ⟨n, rfl⟩ := Int.eq_ofNat_of_zero_le (Int.le_of_lt h)
  unfold Builtin.bitAnd
  rw [decide_eq_true (Int.le_of_lt h), decide_eq_false (by omega)]
  show (n : Int) - ((n &&& (Builtin.bitNot (-(n : Int))).toNat : Nat) : Int) = _
  have e : (Builtin.bitNot (-(n : Int))).toNat = n - 1 := by
    unfold Builtin.bitNot
    omega
  rw [e]
  have : n &&& (n - 1) ≤ n := Nat.and_le_left
  show _ = ((n - (n &&& (n - 1)) : Nat) : Int)
  omega
/-- one row's comprehension over what is walked, each item by its place -/
theorem dn_lc1 {X : Cx} {rs : Rs} {M : Mem} {ρ : List (Option Ab)} {iter elt : Expr} {scope sc : Scope} {N : List Str} {pos tpos : Pos} {x : Str} (j : Nat) {n0 : Nat} {item0 : Nat → Ab → Prop} {f : Nat → PyData} (hi : DI X rs M ρ (.Name x tpos) iter (fun n item => n = n0 ∧ item = item0)) (nd : X.N.Nodup)
    (hb : blkC N sc scope [(x, j)] = true) (hn : n0 ≤ 100000) (hs : ∀ i a, i < n0 → item0 i a → AllBlk X scope (fun Y => DE Y rs M ((ρ.set j none).set j (some a)) elt (Is (.d (f i)))))
    (hg : AllBlk X scope (fun Y => DG Y (.Name x tpos) [j] (fun a ρ ρ' => ρ' = ρ.set j (some a)))) (hc : X.calm = true := by rfl) (eN : X.N = N := by rfl) (eS : X.env.scope = sc := by rfl) (hf : ∀ x, foldedSetIterable iter X.env x = pure x := by intro _; rfl) :
    DN X rs M ρ (.ListComp elt [⟨.Name x tpos, iter, [], 0⟩] scope pos) (fun as => as = ((List.range n0).map f).map .d) := by
  refine dn_lc (own := [(x, j)]) (fun n item i acc => acc = ((List.range i).map f).map .d) hi hc nd (by rw [eN, eS]; exact blkOk_by hb) hg (fun _ _ _ => rfl) (fun n item i acc a ⟨h1, h2⟩ hlt ha ia => ?_) (fun n item acc ⟨h1, h2⟩ ha => by rw [ha, h1]) (fun i h => h) hf
  subst h1 h2 ha
  refine ⟨by rw [List.length_map, List.length_map, List.length_range]; omega, _, fun b => b = true, rfl, fun s H C cl fp => dts_nil, fun _ => fun s H C cl fp => de_imp (hs i a hlt ia s H C cl fp) fun z hz => ?_, fun h => nomatch h⟩
  rw [hz, List.range_succ, List.map_append, List.map_append]
  rfl
theorem de_lc1 {X : Cx} {rs : Rs} {M : Mem} {ρ : List (Option Ab)} {iter elt : Expr} {scope sc : Scope} {N : List Str} {pos tpos : Pos} {x : Str} (j : Nat) {n0 : Nat} {item0 : Nat → Ab → Prop} {f : Nat → PyData} (hi : DI X rs M ρ (.Name x tpos) iter (fun n item => n = n0 ∧ item = item0)) (nd : X.N.Nodup)
    (hb : blkC N sc scope [(x, j)] = true) (hn : n0 ≤ 100000) (hs : ∀ i a, i < n0 → item0 i a → AllBlk X scope (fun Y => DE Y rs M ((ρ.set j none).set j (some a)) elt (Is (.d (f i)))))
    (hg : AllBlk X scope (fun Y => DG Y (.Name x tpos) [j] (fun a ρ ρ' => ρ' = ρ.set j (some a)))) (hc : X.calm = true := by rfl) (eN : X.N = N := by rfl) (eS : X.env.scope = sc := by rfl) (hf : ∀ x, foldedSetIterable iter X.env x = pure x := by intro _; rfl) :
    DE X rs M ρ (.ListComp elt [⟨.Name x tpos, iter, [], 0⟩] scope pos) (Is (aL ((List.range n0).map f))) :=
  de_of_dn (dn_lc1 j hi nd hb hn hs hg hc eN eS hf) fun as h => ⟨_, h, rfl⟩
theorem range_map_get {α β : Type} (xs : List α) (g : α → β) (f : Nat → β) (h : ∀ i x, xs[i]? = some x → f i = g x) : (List.range xs.length).map f = xs.map g := by
  apply List.ext_getElem?
  intro i
  rw [List.getElem?_map, List.getElem?_map]
  by_cases hi : i < xs.length
  · rw [List.getElem?_range hi, List.getElem?_eq_getElem hi]
    show some (f i) = some (g xs[i])
    rw [h i _ (List.getElem?_eq_getElem hi)]
  · rw [List.getElem?_eq_none (by simpa using hi), List.getElem?_eq_none (by simpa using hi)]
    rfl
theorem atD_get {ds : List PyData} {i : Nat} {a : Ab} (h : AtD ds i a) : ∃ d, ds[i]? = some d ∧ a = .d d := by
  have h : (ds.map Ab.d)[i]? = some a := h
  rw [List.getElem?_map] at h
  match q : ds[i]?, h with
  | some d, h => exact ⟨d, rfl, (Option.some.inj h).symm⟩
theorem atD_ints {ws : List Int} {i : Nat} {a : Ab} (h : AtD (ws.map .int) i a) : ∃ x, ws[i]? = some x ∧ a = aI x := by
  obtain ⟨d, hd, rfl⟩ := atD_get h
  rw [List.getElem?_map] at hd
  match q : ws[i]?, hd with
  | some x, hd => exact ⟨x, rfl, by rw [← Option.some.inj hd]⟩
theorem atE_ints {ws : List Int} {i : Nat} {a : Ab} (h : AtE (ws.map .int) i a) : ∃ x, ws[i]? = some x ∧ a = aT [.int i, .int x] := by
  obtain ⟨d, hd, rfl⟩ := h
  rw [List.getElem?_map] at hd
  match q : ws[i]?, hd with
  | some x, hd => exact ⟨x, rfl, by rw [← Option.some.inj hd]⟩
theorem atZ_ints {ws us : List Int} {i : Nat} {a : Ab} (h : AtZ (ws.map .int) (us.map .int) i a) : ∃ x y, ws[i]? = some x ∧ us[i]? = some y ∧ a = aT [.int x, .int y] := by
  obtain ⟨d, e, hd, he, rfl⟩ := h
  rw [List.getElem?_map] at hd he
  match q : ws[i]?, hd with
  | some x, hd =>
    match q2 : us[i]?, he with
    | some y, he => exact ⟨x, y, rfl, rfl, by rw [← Option.some.inj hd, ← Option.some.inj he]⟩
theorem getD_of {α : Type} {xs : List α} {i : Nat} {x d : α} (h : xs[i]? = some x) : xs.getD i d = x := by
  rw [List.getD_eq_getElem?_getD, h]
  rfl
/-- items of which a word is told -/
theorem dn_lcP {X : Cx} {rs : Rs} {M : Mem} {ρ : List (Option Ab)} {iter elt : Expr} {scope sc : Scope} {N : List Str} {pos tpos : Pos} {x : Str} (j : Nat) {n0 : Nat} {item0 : Nat → Ab → Prop} {W : PyData → Prop} (hi : DI X rs M ρ (.Name x tpos) iter (fun n item => n = n0 ∧ item = item0)) (nd : X.N.Nodup)
    (hb : blkC N sc scope [(x, j)] = true) (hn : n0 ≤ 100000) (hs : ∀ i a, i < n0 → item0 i a → AllBlk X scope (fun Y => DE Y rs M ((ρ.set j none).set j (some a)) elt (fun z => ∃ d, z = .d d ∧ W d)))
    (hg : AllBlk X scope (fun Y => DG Y (.Name x tpos) [j] (fun a ρ ρ' => ρ' = ρ.set j (some a)))) (hc : X.calm = true := by rfl) (eN : X.N = N := by rfl) (eS : X.env.scope = sc := by rfl) (hf : ∀ x, foldedSetIterable iter X.env x = pure x := by intro _; rfl) :
    DN X rs M ρ (.ListComp elt [⟨.Name x tpos, iter, [], 0⟩] scope pos) (fun as => ∃ ds : List PyData, as = ds.map .d ∧ ds.length = n0 ∧ ∀ d ∈ ds, W d) := by
  refine dn_lc (own := [(x, j)]) (fun n item i acc => ∃ ds : List PyData, acc = ds.map .d ∧ ds.length = i ∧ ∀ d ∈ ds, W d) hi hc nd (by rw [eN, eS]; exact blkOk_by hb) hg (fun _ _ _ => ⟨[], rfl, rfl, fun _ h => absurd h List.not_mem_nil⟩) (fun n item i acc a ⟨h1, h2⟩ hlt ha ia => ?_) (fun n item acc ⟨h1, h2⟩ ha => by rw [← h1]; exact ha) (fun i h => h) hf
  subst h1 h2
  obtain ⟨ds, rfl, hl, hw⟩ := ha
  refine ⟨by rw [List.length_map]; omega, _, fun b => b = true, rfl, fun s H C cl fp => dts_nil, fun _ => fun s H C cl fp => de_imp (hs i a hlt ia s H C cl fp) fun z ⟨d, hz, hd⟩ => ?_, fun h => nomatch h⟩
  subst hz
  refine ⟨ds ++ [d], by rw [List.map_append]; rfl, by rw [List.length_append, hl]; rfl, fun y hy => ?_⟩
  rcases List.mem_append.mp hy with h | h
  · exact hw y h
  · exact (List.mem_singleton.mp h) ▸ hd
theorem de_lcP {X : Cx} {rs : Rs} {M : Mem} {ρ : List (Option Ab)} {iter elt : Expr} {scope sc : Scope} {N : List Str} {pos tpos : Pos} {x : Str} (j : Nat) {n0 : Nat} {item0 : Nat → Ab → Prop} {W : PyData → Prop} (hi : DI X rs M ρ (.Name x tpos) iter (fun n item => n = n0 ∧ item = item0)) (nd : X.N.Nodup)
    (hb : blkC N sc scope [(x, j)] = true) (hn : n0 ≤ 100000) (hs : ∀ i a, i < n0 → item0 i a → AllBlk X scope (fun Y => DE Y rs M ((ρ.set j none).set j (some a)) elt (fun z => ∃ d, z = .d d ∧ W d)))
    (hg : AllBlk X scope (fun Y => DG Y (.Name x tpos) [j] (fun a ρ ρ' => ρ' = ρ.set j (some a)))) (hc : X.calm = true := by rfl) (eN : X.N = N := by rfl) (eS : X.env.scope = sc := by rfl) (hf : ∀ x, foldedSetIterable iter X.env x = pure x := by intro _; rfl) :
    DE X rs M ρ (.ListComp elt [⟨.Name x tpos, iter, [], 0⟩] scope pos) (fun a => ∃ ds, a = aL ds ∧ ds.length = n0 ∧ ∀ d ∈ ds, W d) :=
  de_of_dn (dn_lcP j hi nd hb hn hs hg hc eN eS hf) fun as ⟨ds, h, r⟩ => ⟨ds, h, ds, rfl, r⟩
/-- a state's words -/
def IsState (n w : Nat) : Ab → Prop := fun a => ∃ ws : List Int, a = aT (ws.map .int) ∧ ws.length = n ∧ ∀ x ∈ ws, 0 ≤ x ∧ x < 2 ^ w
theorem ints_of {W : Int → Prop} : ∀ {ds : List PyData}, (∀ d ∈ ds, ∃ i, d = .int i ∧ W i) → ∃ ws : List Int, ds = ws.map .int ∧ ∀ x ∈ ws, W x
  | [], _ => ⟨[], rfl, fun _ h => absurd h List.not_mem_nil⟩
  | d :: ds, h => by
    obtain ⟨i, rfl, hi⟩ := h d List.mem_cons_self
    obtain ⟨ws, rfl, hw⟩ := ints_of fun x hx => h x (List.mem_cons_of_mem _ hx)
    refine ⟨i :: ws, rfl, fun x hx => ?_⟩
    rcases List.mem_cons.mp hx with z | z
    · exact z ▸ hi
    · exact hw x z
theorem cutA_length {α : Type} (xs : List α) (lo hi : Option Int) : (cutA xs lo hi).length ≤ xs.length := by
  unfold cutA
  rw [List.length_take, List.length_drop]
  omega
theorem repAll_one {K : PySem.W.Frag} {G : Hp} {vs : List V} {a : Ab} (h : RepAll K G vs [a]) : ∃ v, vs = [v] ∧ Rep K G v a := by
  match vs, h with
  | [v], h => exact ⟨v, rfl, h.1⟩
/-! ### a def that makes a deck, and its call -/
section
variable {P : Program} {w : World} {K : PySem.W.Frag} {mg : Str → Option Value} {base : Heap} {k : Nat} {f : Addr} {fd : FuncData} {ps N : List Str} {x qual : Str} {st : Stmt}
theorem fn_deck (F : Fun K x qual st f fd) (Sc : FnScope N ps (defScope st)) (one : ps.length = 1)
    (body : ∀ (cdv : Value) (A : Around) (outer : List Env) (s : Shared) (H0 : Hp) (E : XK), Room k (A.deeper (envOfC qual (defScope st) s.heap.objs.size f cdv)) → A.guards = some [] → ∀ ns : List Int, ns.length ≤ 63 →
      DSs (bodyCx P w K mg base N qual st f cdv A outer s H0 E) rs0.F ⟨rs0, [], startA N [aScr K ns]⟩ (defBody st) ⟨fun _ => False, fun rs2 M2 a => rs2 = rs0 ∧ ∃ D C cells m c, M2 = deckM D C cells m c ∧ a = .at D ∧ cells.length ≤ 63, fun _ => False, fun _ => False⟩) :
    FnG P w K mg base CX0 (k + 1) f fd ps (SpecDeck K) := by
  refine fun_okG F Sc (fun vs H Q E ⟨ns, G, v, h, _⟩ => by rw [h, one]; rfl) fun cdv A outer s H vs Q E room gd ⟨ns, G, v, hv, rep, hl, ok, kk⟩ => ?_
  subst hv
  refine ⟨_, (body cdv A outer s H E room gd ns hl G H).nox, G, ⟨Loc.starts (show RepAll K G [v] [_] from ⟨rep, trivial⟩), ok, Lie.refl _ _ _, fun e he => absurd he List.not_mem_nil, fun b h => h.elim⟩, fun _ _ _ _ q => q.elim, fun rs2 M2 u a G' H' q rep2 ok2 l2 own => ?_, fun _ _ _ _ q => q.elim, fun _ _ _ _ q => q.elim⟩
  obtain ⟨rfl, D, C, cells, m, c, rfl, rfl, hc⟩ := q
  have rep2 : u = .ref D := rep2
  subst rep2
  have m1 : (⟨D, true, .lst [.at C, aI m, aI c]⟩ : Me) ∈ deckM D C cells m c := List.mem_cons_self
  have m2 : (⟨C, true, .lst ((cells.map .int).map .d)⟩ : Me) ∈ deckM D C cells m c := List.mem_cons_of_mem _ List.mem_cons_self
  exact kk D C G' H' ⟨l2.g, ok2.gh, l2.h, l2.nw, trivial⟩ (deck_close ok2 hc) (ok2.m _ m1).1 (ok2.m _ m2).1 ((own _ m1 rfl).elim id fun z => z.elim) ((own _ m2 rfl).elim id fun z => z.elim)
theorem ds_deck {X : Cx} {Ff : Addr → Prop} {D' : AE} {ρ : List (Option Ab)} {e : Expr} {y z : Str} {p pos' pos cpos : Pos} {ns : List Int} (i : Nat) (F : FnG X.prog X.w X.K X.mg X.base CX0 k f fd ps (SpecDeck X.K)) (hr : Room k X.A) (gd : X.A.guards = some []) (hm : X.mg z = some (.ref f)) (hk : PySem.W.keepIn X.K (.ref f) = true)
    (hb : Binds X.K fd ps []) (he : DE X rs0 [] ρ e (Is (aScr X.K ns))) (hl : ns.length ≤ 63) (kk : ∀ D C, D'.nx ⟨deckRs D C, [], ρ.set i (some (.at D))⟩) (hN : X.N.Nodup) (hg : Gl X z := by rfl) (hi : X.N[i]? = some y := by rfl) (hx : L2.Loc X.env.scope y := by first | exact Or.inl rfl | exact Or.inr rfl)
    (hs : swapsWith (.Call (.Name z p) [e] [] cpos) (some (.Name y pos')) pos.line X.env = pure false := by rfl) (hf : X.fn y = true ∨ X.env.scope.names.lookup y = some .local := by first | exact .inl rfl | exact .inr rfl)
    (hdb : (z == ("__debug__" : Str)) = false := by decide) (hst : starEach [e] X.env = (false, eval e X.env) :: starEach [] X.env := by rfl) (hpl : (backTo cpos (starEach [] X.env)).any (·.1) = false := by rfl) :
    DS X Ff ⟨rs0, [], ρ⟩ (.Assign [.Name y pos'] (.Call (.Name z p) [e] [] cpos) pos) D' := by
  intro G0 H0
  have ha : DA X rs0 [] ρ [e] (fun as => as = [aScr X.K ns]) := da_cons he da_nil hst
  refine ps_weak (ps_set hN hi hx (pe_callG (E := E0) F hr gd hg hm hk hb .nil pass0 ha hdb hst hpl) hs hf) fun De σ H h => ?_
  obtain ⟨G, s, n, _⟩ := h
  show tDA X.K rs0 [] ρ (fun as => as = [aScr X.K ns]) σ H (fun vs H1 => SpecDeck X.K (vs ++ []) H1 (fun v H2 => De.nx (σ.set i (some v)) H2) E0)
  refine ⟨G, s.loc, s.ok, fun vs as G1 H1 ra rep n1 => ?_⟩
  subst ra
  obtain ⟨v, e1, r⟩ := repAll_one rep
  subst e1
  · have s1 := s.nxt n1
    refine ⟨ns, G1, v, rfl, r, hl, s1.ok, fun D C G' H' n2 id_ g1 g2 h1 h2 => ?_⟩
    have s2 := s1.nxt n2
    have back : ∀ b, H1 b = none → H0 b = none := fun b hb => by
      cases q : H0 b with
      | none => rfl
      | some u =>
        obtain ⟨o', e'⟩ := s1.lie.al b u q
        rw [hb] at e'
        cases e'
    refine n _ _ G' H' (kk D C) ⟨s2.loc.set (a := .at D) rfl i, ⟨s2.ok.gh, fun b f => ?_, id_, fun e he => absurd he List.not_mem_nil, fun _ _ _ _ z => by simp at z⟩, s2.lie, fun e he => absurd he List.not_mem_nil, fun b f => ?_⟩
    · rcases f with rfl | rfl
      · exact g1
      · exact g2
    · rcases f with rfl | rfl
      · exact .inl (back _ h1)
      · exact .inl (back _ h2)
end
end HW
namespace HW
open PySem PySem.Spec PyProof.Rows L2 RZ

/-! ### keywords, all in the order from the last to the first -/
def gR {α : Type} : List α → List α → List α
  | [], ws => ws.reverse
  | _ :: _, _ => []
theorem vals_append : ∀ {vs zs : List V} {us ws : List Value}, Vals vs us → Vals zs ws → Vals (vs ++ zs) (us ++ ws)
  | _, _, _, _, .nil, b => b
  | _, _, _, _, .cons h r, b => .cons h (vals_append r b)
theorem vals_reverse : ∀ {vs : List V} {us : List Value}, Vals vs us → Vals vs.reverse us.reverse
  | _, _, .nil => .nil
  | _, _, .cons h r => by
    rw [List.reverse_cons, List.reverse_cons]
    exact vals_append (vals_reverse r) (.cons h .nil)
theorem kb_rev {K : PySem.W.Frag} {x qual : Str} {st : Stmt} {f : Addr} {fd : FuncData} {ps ks : List Str} (F : Fun K x qual st f fd) (hp : ps ≠ [])
    (h : ∀ (kV doc pm : Value) (an : Option Addr) (cdv ct : Value) (ws : List Value), ws.length = ps.length → bindArgs (PySem.W.fnOf x qual (defArgs st) (defBody st) (defScope st) .none kV doc pm an cdv ct) ⟨[], ks.zip ws⟩ = pure (ps.zip ws.reverse)) :
    KBinds K fd ps ks gR gR := by
  obtain ⟨oc, od, kV, doc, pm, an, cdv, ct, osl, rfl, lk, hcd⟩ := F.ex
  refine ⟨fun s us ws _ hl => ?_, fun a b => ?_⟩
  · match us, hl with
    | [], hl =>
      refine .of_eq (h kV doc pm an cdv ct ws ?_)
      have : ws.reverse.length = ps.length := hl
      rwa [List.length_reverse] at this
    | _ :: _, hl =>
      have : 0 = ps.length := hl
      exact absurd (List.length_eq_zero_iff.mp this.symm) hp
  · cases a with
    | nil => exact vals_reverse b
    | cons _ _ => exact .nil
theorem rep_gR {K : PySem.W.Frag} {as : List Ab} (G : Hp) (vs : List V) (h : RepAll K G vs as) : RepAll K G (gR [] vs) as.reverse := RepAll.reverse h

/-! ### words, their columns -/
theorem bitI_mod (x : Int) (k : Nat) : x % 2 ^ (k + 1) = x % 2 ^ k + bitI x k * 2 ^ k := by
  have p := two_pow_pos k
  have e1 := Int.emod_add_mul_ediv x (2 ^ (k + 1))
  have e2 := Int.emod_add_mul_ediv x (2 ^ k)
  have e3 := Int.emod_add_mul_ediv (x / 2 ^ k) 2
  have e4 : x / 2 ^ k / 2 = x / 2 ^ (k + 1) := by rw [Int.pow_succ, Int.ediv_ediv_of_nonneg (Int.le_of_lt p)]
  unfold bitI
  rw [e4] at e3
  rw [Int.pow_succ] at e1 e3 ⊢
  generalize x / (2 ^ k * 2) = q at *
  generalize x / 2 ^ k = r at *
  generalize (2 : Int) ^ k = z at *
  have e5 : r % 2 = r - 2 * q := by omega
  rw [e5, Int.sub_mul]
  have e6 : z * 2 * q = 2 * q * z := by rw [Int.mul_comm z 2, Int.mul_assoc, Int.mul_comm z q, ← Int.mul_assoc]
  have e7 : z * r = r * z := Int.mul_comm z r
  omega
theorem split_word (x : Int) (k : Nat) : x % 2 ^ k + x / 2 ^ k * 2 ^ k = x := by
  have := Int.emod_add_mul_ediv x (2 ^ k)
  rw [Int.mul_comm (2 ^ k)] at this
  exact this
theorem bitI_high {x : Int} {w k : Nat} (h0 : 0 ≤ x) (h : x < 2 ^ w) (hk : w ≤ k) : bitI x k = 0 := by
  have e : (2 : Int) ^ k = 2 ^ (k - w) * 2 ^ w := by rw [← Int.pow_add]; congr 1; omega
  have p := two_pow_pos (k - w)
  have p2 := two_pow_pos w
  have : x / 2 ^ k = 0 := Int.ediv_eq_zero_of_lt h0 (by
    have : 1 * 2 ^ w ≤ (2 : Int) ^ (k - w) * 2 ^ w := Int.mul_le_mul_of_nonneg_right (by omega) (Int.le_of_lt p2)
    omega)
  unfold bitI
  rw [this]
  rfl
theorem colI_high {w k : Nat} (hk : w ≤ k) : ∀ {ws : List Int}, (∀ x ∈ ws, 0 ≤ x ∧ x < 2 ^ w) → colI ws k = 0
  | [], _ => rfl
  | x :: r, h => by
    rw [colI, colI_high hk fun y hy => h y (List.mem_cons_of_mem _ hy), bitI_high (h x List.mem_cons_self).1 (h x List.mem_cons_self).2 hk]
    rfl
theorem colI_noughts (k : Nat) : ∀ n : Nat, colI (List.replicate n 0) k = 0
  | 0 => rfl
  | n + 1 => by
    rw [List.replicate_succ, colI, colI_noughts k n]
    simp [bitI]
theorem bitI_col (k : Nat) : ∀ (ws : List Int) (i : Nat) (x : Int), ws[i]? = some x → bitI (colI ws k) i = bitI x k
  | [], _, _, h => by simp at h
  | y :: r, 0, x, h => by
    have h : some y = some x := h
    cases h
    have b := bitI_range y k
    show (bitI y k + 2 * colI r k) / 2 ^ 0 % 2 = bitI y k
    rw [Int.pow_zero, Int.ediv_one]
    omega
  | y :: r, i + 1, x, h => by
    have h : r[i]? = some x := h
    have b := bitI_range y k
    rw [← bitI_col k r i x h]
    show (bitI y k + 2 * colI r k) / 2 ^ (i + 1) % 2 = colI r k / 2 ^ i % 2
    have e : (2 : Int) ^ (i + 1) = 2 * 2 ^ i := by rw [Int.pow_succ, Int.mul_comm]
    rw [e, ← Int.ediv_ediv_of_nonneg (by decide)]
    congr 2
    omega
def colsI (ws : List Int) (w : Nat) : List Int := (List.range w).map (colI ws)
theorem colsI_len (ws : List Int) (w : Nat) : (colsI ws w).length = w := by
  unfold colsI
  rw [List.length_map, List.length_range]
theorem colsI_get {ws : List Int} {w j : Nat} (h : j < w) : (colsI ws w)[j]? = some (colI ws j) := by
  unfold colsI
  rw [List.getElem?_map, List.getElem?_range h]
  rfl
theorem colsI_mem {ws : List Int} {w : Nat} {x : Int} (h : x ∈ colsI ws w) : 0 ≤ x ∧ x < 2 ^ ws.length := by
  unfold colsI at h
  obtain ⟨k, _, rfl⟩ := List.mem_map.mp h
  exact colI_range k ws
theorem col_colsI {ws : List Int} {i : Nat} {x : Int} (h : ws[i]? = some x) : ∀ w : Nat, colI (colsI ws w) i = x % 2 ^ w
  | 0 => by
    show (0 : Int) = x % 1
    omega
  | w + 1 => by
    have e : colsI ws (w + 1) = colsI ws w ++ [colI ws w] := by
      unfold colsI
      rw [List.range_succ, List.map_append]
      rfl
    rw [e, colI_snoc, col_colsI h w, colsI_len, bitI_col w ws i x h, bitI_mod]
theorem cols_back {ws : List Int} {w : Nat} (h : ∀ x ∈ ws, 0 ≤ x ∧ x < 2 ^ w) : colsI (colsI ws w) ws.length = ws := by
  have e : (List.range ws.length).map (colI (colsI ws w)) = ws.map id := range_map_get ws id _ fun i x hx => by
    have := h x (List.mem_of_getElem? hx)
    rw [col_colsI hx, Int.emod_eq_of_lt this.1 this.2]
    rfl
  rw [List.map_id] at e
  exact e

/-! ### sizes -/
theorem natAbs_lt {x : Int} {k : Nat} (h0 : 0 ≤ x) (h : x < 2 ^ k) : x.natAbs < 2 ^ k := int_lt_of_pow h0 h
theorem sz_word {x : Int} (h0 : 0 ≤ x) (h : x < 2 ^ 100) : Sz 1 20000 (.int x) := (sz_int 100 (natAbs_lt h0 h) (by decide) (by decide)).mono (by decide) (by decide)
theorem sz_words {ws : List Int} (hl : ws.length ≤ 100) (h : ∀ x ∈ ws, 0 ≤ x ∧ x < 2 ^ 100) : Sz 1 20000 (.tuple (ws.map .int)) :=
  (sz_tup (D := 0) (L := 101) fun d hd => by
    obtain ⟨x, hx, rfl⟩ := List.mem_map.mp hd
    exact sz_int 100 (natAbs_lt (h x hx).1 (h x hx).2) (by decide) (by decide)).mono (by decide) (by rw [List.length_map]; omega)
theorem sz_show {ds : List PyData} (hl : ds.length ≤ 100) (h : ∀ d ∈ ds, Sz 1 20000 d) : Sz 50 10000000 (.list ds) := (sz_list h).mono (by decide) (by omega)
theorem pow_le_100 {k : Nat} (h : k ≤ 100) : (2 : Int) ^ k ≤ 2 ^ 100 := by
  have := Nat.pow_le_pow_right (n := 2) (by decide) h
  have e1 : ((2 ^ k : Nat) : Int) = 2 ^ k := by norm_cast
  have e2 : ((2 ^ 100 : Nat) : Int) = 2 ^ 100 := by norm_cast
  omega
/-- what stands in a row to pick of -/
theorem nats_row {m : Nat} : ∀ {as : List Ab}, (∀ a ∈ as, ∃ k : Nat, a = aI k ∧ k ≤ m) → ∃ ds : List PyData, as = ds.map .d ∧ ds.length = as.length ∧ ∀ d ∈ ds, ∃ k : Nat, d = .int k ∧ k ≤ m
  | [], _ => ⟨[], rfl, rfl, fun _ h => absurd h List.not_mem_nil⟩
  | a :: as, h => by
    obtain ⟨k, rfl, hk⟩ := h a List.mem_cons_self
    obtain ⟨ds, e, hl, hd⟩ := nats_row fun b hb => h b (List.mem_cons_of_mem _ hb)
    subst e
    refine ⟨.int k :: ds, rfl, by rw [List.length_cons, List.length_cons, hl], fun d hd' => ?_⟩
    rcases List.mem_cons.mp hd' with rfl | hd'
    · exact ⟨k, rfl, hk⟩
    · exact hd d hd'
def NatRow (m l : Nat) (as : List Ab) : Prop := as.length = l ∧ ∀ a ∈ as, ∃ k : Nat, a = aI k ∧ k ≤ m
section
variable {X : Cx} {rs : Rs} {M : Mem} {ρ : List (Option Ab)} {e : Expr} {es : List Expr} {m l : Nat} {Ra : Ab → Prop}
theorem da_nat0 : DA X rs M ρ [] (NatRow m 0) := by
  refine pa_weak (da_nil (X := X) (rs := rs) (M := M) (ρ := ρ)) fun σ H Q ⟨G, lo, ok, k⟩ => ⟨G, lo, ok, fun vs as G1 H1 h => k vs as G1 H1 ?_⟩
  rw [h]
  exact ⟨rfl, fun _ h => absurd h List.not_mem_nil⟩
theorem da_nat (ha : DE X rs M ρ e Ra) (w : ∀ a, Ra a → ∃ k : Nat, a = aI k ∧ k ≤ m) (hr : DA X rs M ρ es (NatRow m l)) (hs : starEach (e :: es) X.env = (false, eval e X.env) :: starEach es X.env := by rfl) : DA X rs M ρ (e :: es) (NatRow m (l + 1)) :=
  da_consR ha hr (fun y ys h1 h2 => ⟨by rw [List.length_cons, h2.1], fun a h => by
    rcases List.mem_cons.mp h with rfl | h
    · exact w _ h1
    · exact h2.2 a h⟩) hs
/-- a display of small numbers, drawn or not -/
theorem de_natRow {pos : Pos} (hl : l ≤ 1000) (h : DA X rs M ρ es (NatRow m l)) : DE X rs M ρ (.List es pos) (fun a => ∃ ds : List PyData, a = aL ds ∧ ds.length = l ∧ ∀ d ∈ ds, ∃ k : Nat, d = .int k ∧ k ≤ m) :=
  de_of_dn (dn_lst h fun as h => by rw [h.1]; omega) fun as h => by
    obtain ⟨ds, e, h1, h2⟩ := nats_row h.2
    exact ⟨ds, e, ds, rfl, by rw [h1]; exact h.1, h2⟩
end
theorem eqv_ints : ∀ ns : List Int, PyData.eqvAll (ns.map .int) (ns.map .int) = true
  | [] => by simp [PyData.eqvAll]
  | n :: ns => by
    simp only [List.map_cons, PyData.eqvAll, eqv_ints ns]
    simp [PyData.eqv]
theorem eqv_self (ns : List Int) : PyData.eqv (.list (ns.map .int)) (.list (ns.map .int)) = true := by
  simp [PyData.eqv, eqv_ints]
theorem flat_one {α : Type} (a : α) : ∀ k : Nat, (List.replicate k [a]).flatten = List.replicate k a
  | 0 => rfl
  | k + 1 => by rw [List.replicate_succ, List.flatten_cons, flat_one a k, List.replicate_succ]; rfl
/-! ### numbers told by a word only -/
abbrev IntW (W : Int → Prop) : Ab → Prop := fun a => ∃ i, a = aI i ∧ W i
section
variable {X : Cx} {rs : Rs} {M : Mem} {ρ : List (Option Ab)} {a b e : Expr} {W U : Int → Prop} {i j : Int} {p pos : Pos}
theorem de_modW (ha : DE X rs M ρ a (IntW W)) (hb : DE X rs M ρ b (Is (aI j))) (hc : 0 < j) (h : ∀ i, W i → U (i % j)) : DE X rs M ρ (.BinOp a .Mod b pos) (IntW U) :=
  de_op op_mod ha hb fun _ _ ⟨_, e1, w1⟩ e2 => by subst e1 e2; exact ar_int hc ⟨_, rfl, h _ w1⟩
theorem de_shlW (ha : DE X rs M ρ a (Is (aI i))) (hb : DE X rs M ρ b (IntW W)) (hc : ∀ j, W j → CPow i j) (h : ∀ j, W j → U (i * 2 ^ j.toNat)) : DE X rs M ρ (.BinOp a .LShift b pos) (IntW U) :=
  de_op op_shl ha hb fun _ _ e1 ⟨_, e2, w2⟩ => by subst e1 e2; exact ar_int (hc _ w2) ⟨_, rfl, h _ w2⟩
theorem de_mulW2 (ha : DE X rs M ρ a (Is (aI i))) (hb : DE X rs M ρ b (IntW W)) (hc : ∀ j, W j → CMul i j) (h : ∀ j, W j → U (i * j)) : DE X rs M ρ (.BinOp a .Mult b pos) (IntW U) :=
  de_op op_mul ha hb fun _ _ e1 ⟨_, e2, w2⟩ => by subst e1 e2; exact ar_int (hc _ w2) ⟨_, rfl, h _ w2⟩
theorem de_addW (ha : DE X rs M ρ a (Is (aI i))) (hb : DE X rs M ρ b (IntW W)) (h : ∀ j, W j → U (i + j)) : DE X rs M ρ (.BinOp a .Add b pos) (IntW U) :=
  de_op op_add ha hb fun _ _ e1 ⟨_, e2, w2⟩ => by subst e1 e2; exact ar_int0 ⟨_, rfl, h _ w2⟩
theorem de_intOfW (hm : X.mg "int" = none) (ha : DE X rs M ρ e (IntW W)) (hg : Gl X "int" := by rfl) (he : starEach [e] X.env = (false, eval e X.env) :: starEach [] X.env := by rfl) : DE X rs M ρ (.Call (.Name "int" p) [e] [] pos) (IntW W) :=
  de_callTy (T := fun as => ∃ y, as = [y] ∧ IntW W y) call_int1 hg hm (by decide +kernel) (da_consR ha da_nil (fun y ys h1 h2 => ⟨y, by rw [h2], h1⟩) he) (fun as ⟨y, e1, i, e2, w⟩ => fun G H vs Q ok reps k => by
    subst e1 e2
    match vs, reps with
    | [v], ⟨rv, _⟩ =>
      rw [rep_int rv]
      exact .inl ⟨i, rfl, k _ _ G H ⟨i, rfl, w⟩ (Dp.int _) (Nxt.rfl ok)⟩) (hs := he)
end

/-! ### a law -/
def S_lawG (K : PySem.W.Frag) (rs : Rs) (M : Mem) (as : List Ab) (R : Ab → Prop) : Prop := ∃ ns : List Int, rs = rs0 ∧ as = [aScr K ns] ∧ ns.length ≤ 63 ∧ R = Is (aB true)
theorem fn_law {P : Program} {w : World} {K : PySem.W.Frag} {mg : Str → Option Value} {base : Heap} {k : Nat} {x qual : Str} {st : Stmt} {f : Addr} {fd : FuncData} {N : List Str} (F : Fun K x qual st f fd) (Sc : FnScope N ["script"] (defScope st))
    (body : ∀ (cdv : Value) (A : Around) (outer : List Env) (s : Shared) (H0 : Hp) (E : XK), Room k (A.deeper (envOfC qual (defScope st) s.heap.objs.size f cdv)) → A.guards = some [] → ∀ ns : List Int, ns.length ≤ 63 →
      DSs (bodyCx P w K mg base N qual st f cdv A outer s H0 E) rs0.F ⟨rs0, [], startA N [aScr K ns]⟩ (defBody st) ⟨fun _ => False, fun _ _ a => a = aB true, fun _ => False, fun _ => False⟩) :
    FnG P w K mg base CX0 (k + 1) f fd ["script"] (Spec K (S_lawG K)) := by
  refine fn_goF F Sc (fun rs M as R ⟨_, _, h, _⟩ => by rw [h]; rfl) fun cdv A outer s H0 E room gd rs M as R t ro G H vs reps ok => ?_
  obtain ⟨ns, rfl, rfl, hl, rfl⟩ := t
  refine ⟨rs0, [], ok.sub (fun _ z => absurd z List.not_mem_nil) (fun _ _ _ _ z => by simp at z), fun _ z => absurd z List.not_mem_nil, fun _ z => z, ?_⟩
  exact fun G1 H1 => pss_weak (body cdv A outer s H0 E room gd ns hl G1 H1) fun De σ H ⟨G, st, n, r, b, c⟩ => ⟨G, st, fun S' σ' G' H' q => q.elim, fun rs2 M2 v a G' H' q => r rs2 M2 v a G' H' ⟨q, fun _ _ _ => trivial⟩, b, c⟩
theorem law_startG {K : PySem.W.Frag} {H : Hp} {a : Addr} {ns : List Int} {E : XK} (hl : ns.length ≤ 63) (hS : SqL K H a (ns.map V.int)) : Spec K (S_lawG K) [.ref a] H (fun v _ => v = .bl true) E := by
  refine ⟨rs0, [], [aScr K ns], Is (aB true), H, ⟨ns, rfl, rfl, hl, rfl⟩, fun _ z => absurd z List.not_mem_nil, ⟨⟨H, fun _ _ h => h, a, rfl, hS⟩, trivial⟩, ⟨fun _ _ h => h, fun _ h => h.elim, trivial, fun _ z => absurd z List.not_mem_nil, fun _ _ _ _ z => by simp at z⟩, fun z y G' H' r rep n => ?_⟩
  subst r
  cases rep
  rfl
theorem dt_notTrue {X : Cx} {rs : Rs} {M : Mem} {ρ : List (Option Ab)} {e : Expr} {pos : Pos} (h : DE X rs M ρ e (Is (aB true))) (he : ∀ whole, isTrue e X.env whole = (do let v ← whole; standAt e.pos; holding [v] (truthy v)) := by intro _; rfl) : DT X rs M ρ (.UnaryOp .Not e pos) (fun c => c = false) :=
  dt_not (T := fun c => c = true) (dt_val h (fun y h => ⟨true, h, rfl⟩) he) fun c h => by rw [h]; rfl
end HW
/-! Own layer, part H: least and greatest of a list, words not in a tuple, a list turned about; deeds and what they do. -/
namespace HW
open PySem PySem.Spec PyProof.Rows L2 RZ

section
variable {X : Cx} {rs : Rs} {M : Mem} {ρ : List (Option Ab)} {a b e : Expr} {es : List Expr} {pos p p2 : Pos} {R Ra Rb : Ab → Prop} {x y : Ab} {i j : Int}
theorem seqL_ints {K : PySem.W.Frag} {rs : Rs} {M : Mem} (ns : List Int) : SeqL K rs M (aL (ns.map .int)) (ns.map aI) := by
  have h := (seqM_l (K := K) (rs := rs) (M := M) (ns.map .int)).l
  rw [List.map_map] at h
  exact h
theorem de_minL {ns : List Int} {m : Int} (hc : X.calm = true) (hm : X.mg "min" = none) (ha : DE X rs M ρ e (Is (aL (ns.map .int)))) (h1 : m ∈ ns) (h2 : ∀ y ∈ ns, m ≤ y) (hg : Gl X "min" := by rfl) (he : starEach [e] X.env = (false, eval e X.env) :: starEach [] X.env := by rfl) : DE X rs M ρ (.Call (.Name "min" p) [e] [] pos) (Is (aI m)) :=
  de_callB (cr_min hc) hg hm (by decide +kernel) (da_cons ha da_nil he) (fun as e1 => fun G H vs Q ok reps k => by
    subst e1
    obtain ⟨v, rfl, rv⟩ := repAll_one reps
    obtain ⟨q, us, rfl, sq, ra⟩ := seqL_ints ns G H v ok rv
    have eu := repAll_ints ra
    subst eu
    exact ⟨q, ns, rfl, sq, List.length_pos_of_mem h1, fun m' hm' hle => k _ _ G H rfl (by rw [Int.le_antisymm (hle m h1) (h2 m' hm')]; exact Dp.int _) (Nxt.rfl ok)⟩) (hs := he)
theorem de_maxL {ns : List Int} {m : Int} (hc : X.calm = true) (hm : X.mg "max" = none) (ha : DE X rs M ρ e (Is (aL (ns.map .int)))) (h1 : m ∈ ns) (h2 : ∀ y ∈ ns, y ≤ m) (hg : Gl X "max" := by rfl) (he : starEach [e] X.env = (false, eval e X.env) :: starEach [] X.env := by rfl) : DE X rs M ρ (.Call (.Name "max" p) [e] [] pos) (Is (aI m)) :=
  de_callB (cr_max hc) hg hm (by decide +kernel) (da_cons ha da_nil he) (fun as e1 => fun G H vs Q ok reps k => by
    subst e1
    obtain ⟨v, rfl, rv⟩ := repAll_one reps
    obtain ⟨q, us, rfl, sq, ra⟩ := seqL_ints ns G H v ok rv
    have eu := repAll_ints ra
    subst eu
    exact ⟨q, ns, rfl, sq, List.length_pos_of_mem h1, fun m' hm' hle => k _ _ G H rfl (by rw [Int.le_antisymm (h2 m' hm') (hle m h1)]; exact Dp.int _) (Nxt.rfl ok)⟩) (hs := he)
theorem dpAll_strs {K : PySem.W.Frag} {G : Hp} : ∀ {ws : List Str} {vs : List V}, DpAll K G vs (ws.map .str) → vs = ws.map V.str
  | [], _, h => by cases h; rfl
  | _ :: ws, _, h => by
    cases h with
    | cons h1 h2 =>
      cases h1
      rw [dpAll_strs h2]
      rfl
theorem flat_strs : ∀ ws : List Str, (ws.map V.str).all flatV = true
  | [] => rfl
  | w :: ws => by
    rw [List.map_cons, List.all_cons, flat_strs ws]
    rfl
theorem de_notInS {s : Str} {ws : List Str} {c : Bool} (ha : DE X rs M ρ a (Is (aS s))) (hb : DE X rs M ρ b (Is (aT (ws.map .str)))) (h : (!inV (.str s) (ws.map V.str)) = c) (hmk : behindInMarks .NotIn b = false := by rfl) : DE X rs M ρ (.Compare a [.NotIn] [b] pos) (Is (aB c)) :=
  de_cmp op_notIn_seq ha hb (fun _ _ e1 e2 => by
    subst e1 e2
    refine fun G H v u Q ok r1 r2 k => ?_
    have r1 : Dp X.K G v (.str s) := r1
    have r2 : Dp X.K G u (.tuple (ws.map .str)) := r2
    cases r1
    cases r2 with
    | tup st al =>
      rw [dpAll_strs al] at st
      refine ⟨_, _, rfl, .inr (sqT_same ok.gh st), rfl, flat_strs ws, ?_⟩
      rw [if_pos rfl, h]
      exact k _ _ G H rfl (Dp.bl _) (Nxt.rfl ok)) hmk
theorem dn_revL {xs : List Ab} {k : Nat} {p1 p3 : Pos} (ha : DE X rs M ρ e (Is x)) (hs : SeqL X.K rs M x xs) : DN X rs M ρ (.Subscript e (.Slice none none (some (.UnaryOp .USub (.Constant (.int 1) k p1) p2)) p3) pos) (fun as => as = xs.reverse) :=
  pe_weak (pe_revL ha) fun σ H Q ⟨G, l, ok, kk⟩ => tD_go l ok fun v z G1 H1 ry rep1 l1 ok1 n1 => by
    subst ry
    obtain ⟨q, ws, rfl, s, ra⟩ := hs G1 H1 v ok1 rep1
    exact ⟨q, ws, rfl, s, fun p hp => kk p _ _ G1 _ rfl ra.reverse upd_same (ok1.gnone hp) (fresh_of ok n1 hp) (n1.trans (Nxt.newM ok1 hp) ok)⟩
end

/-! ### bits of words -/
theorem bitI_nat (x k : Nat) : bitI (x : Int) k = if x.testBit k then 1 else 0 := by
  have h := testBit_int (x := (x : Int)) (Int.natCast_nonneg x) k
  have b := bitI_range (x : Int) k
  rw [Int.toNat_natCast] at h
  rw [h]
  by_cases e : bitI (x : Int) k = 1
  · rw [e]; rfl
  · rw [decide_eq_false e]
    show _ = 0
    omega
theorem bitI_xor (x y k : Nat) : bitI ((x ^^^ y : Nat) : Int) k = if bitI (x : Int) k = bitI (y : Int) k then 0 else 1 := by
  rw [bitI_nat, bitI_nat, bitI_nat, Nat.testBit_xor]
  cases x.testBit k <;> cases y.testBit k <;> rfl
theorem bitI_and (x y k : Nat) : bitI ((x &&& y : Nat) : Int) k = bitI (x : Int) k * bitI (y : Int) k := by
  rw [bitI_nat, bitI_nat, bitI_nat, Nat.testBit_and]
  cases x.testBit k <;> cases y.testBit k <;> rfl

/-! ### deeds -/
inductive Dd where
  | add (i j : Nat)
  | xor (i j : Nat)
  | and (i j k : Nat)
  | one (i : Nat)
def Dd.word : Dd → Str
  | .add _ _ => "add"
  | .xor _ _ => "xor"
  | .and _ _ _ => "and"
  | .one _ => "one"
def Dd.row : Dd → List PyData
  | .add i j => [.str "add", .int i, .int j]
  | .xor i j => [.str "xor", .int i, .int j]
  | .and i j k => [.str "and", .int i, .int j, .int k]
  | .one i => [.str "one", .int i]
def Dd.pl : Dd → Nat
  | .add i _ => i
  | .xor i _ => i
  | .and i _ _ => i
  | .one i => i
def Dd.Ok (n : Nat) : Dd → Prop
  | .add i j => i < n ∧ j < n ∧ i ≠ j
  | .xor i j => i < n ∧ j < n ∧ i ≠ j
  | .and i j k => i < n ∧ j < n ∧ k < n ∧ i ≠ j ∧ i ≠ k
  | .one i => i < n
def bx (x y : Int) : Int := ((x.toNat ^^^ y.toNat : Nat) : Int)
def ba (x y : Int) : Int := ((x.toNat &&& y.toNat : Nat) : Int)
/-- the word that a deed leaves; s is 1, or -1 for a deed undone -/
def Dd.new (v : Nat) (s : Int) (ws : List Int) : Dd → Int
  | .add i j => (ws.getD i 0 + s * ws.getD j 0) % 2 ^ v
  | .xor i j => bx (ws.getD i 0) (ws.getD j 0)
  | .and i j k => bx (ws.getD i 0) (ba (ws.getD j 0) (ws.getD k 0))
  | .one i => (ws.getD i 0 + s) % 2 ^ v
def Dd.act (v : Nat) (s : Int) (ws : List Int) (d : Dd) : List Int := ws.set d.pl (d.new v s ws)
def InW (v : Nat) (ws : List Int) : Prop := ∀ x ∈ ws, 0 ≤ x ∧ x < 2 ^ v
theorem Dd.pl_lt {n : Nat} {d : Dd} (h : d.Ok n) : d.pl < n := by
  cases d with
  | add i j => exact h.1
  | xor i j => exact h.1
  | and i j k => exact h.1
  | one i => exact h
theorem InW.get {v : Nat} {ws : List Int} (h : InW v ws) (i : Nat) : 0 ≤ ws.getD i 0 ∧ ws.getD i 0 < 2 ^ v := by
  rw [List.getD_eq_getElem?_getD]
  cases e : ws[i]? with
  | none => exact ⟨Int.le_refl _, two_pow_pos v⟩
  | some x => exact h x (List.mem_of_getElem? e)
theorem nat_lt_pow {x : Int} {v : Nat} (h0 : 0 ≤ x) (h : x < 2 ^ v) : x.toNat < 2 ^ v := by
  have e : ((2 ^ v : Nat) : Int) = 2 ^ v := by norm_cast
  omega
theorem bx_range {x y : Int} {v : Nat} (hx : 0 ≤ x ∧ x < 2 ^ v) (hy : 0 ≤ y ∧ y < 2 ^ v) : 0 ≤ bx x y ∧ bx x y < 2 ^ v := by
  refine ⟨Int.natCast_nonneg _, ?_⟩
  have := Nat.xor_lt_two_pow (nat_lt_pow hx.1 hx.2) (nat_lt_pow hy.1 hy.2)
  have e : ((2 ^ v : Nat) : Int) = 2 ^ v := by norm_cast
  unfold bx
  omega
theorem ba_range {x y : Int} {v : Nat} (hx : 0 ≤ x ∧ x < 2 ^ v) (hy : 0 ≤ y ∧ y < 2 ^ v) : 0 ≤ ba x y ∧ ba x y < 2 ^ v := by
  refine ⟨Int.natCast_nonneg _, ?_⟩
  have := Nat.and_lt_two_pow x.toNat (nat_lt_pow hy.1 hy.2)
  have e : ((2 ^ v : Nat) : Int) = 2 ^ v := by norm_cast
  unfold ba
  omega
theorem bx_back {x y : Int} (hx : 0 ≤ x) : bx (bx x y) y = x := by
  unfold bx
  rw [Int.toNat_natCast, Nat.xor_assoc, Nat.xor_self, Nat.xor_zero]
  exact Int.toNat_of_nonneg hx
theorem Dd.new_range {v : Nat} {s : Int} {ws : List Int} (h : InW v ws) (d : Dd) : 0 ≤ d.new v s ws ∧ d.new v s ws < 2 ^ v := by
  have p := two_pow_pos v
  cases d with
  | add i j => exact ⟨Int.emod_nonneg _ (Int.ne_of_gt p), Int.emod_lt_of_pos _ p⟩
  | xor i j => exact bx_range (h.get i) (h.get j)
  | and i j k => exact bx_range (h.get i) (ba_range (h.get j) (h.get k))
  | one i => exact ⟨Int.emod_nonneg _ (Int.ne_of_gt p), Int.emod_lt_of_pos _ p⟩
theorem InW.set {v : Nat} {ws : List Int} (h : InW v ws) {x : Int} (hx : 0 ≤ x ∧ x < 2 ^ v) (i : Nat) : InW v (ws.set i x) := fun y hy => by
  rcases List.mem_or_eq_of_mem_set hy with hy | rfl
  · exact h y hy
  · exact hx
theorem InW.act {v : Nat} {s : Int} {ws : List Int} (h : InW v ws) (d : Dd) : InW v (d.act v s ws) := h.set (Dd.new_range h d) _
theorem act_len {v : Nat} {s : Int} {ws : List Int} (d : Dd) : (d.act v s ws).length = ws.length := List.length_set ..
theorem getD_set_ne {ws : List Int} {i j : Nat} {x : Int} (h : i ≠ j) : (ws.set i x).getD j 0 = ws.getD j 0 := by
  rw [List.getD_eq_getElem?_getD, List.getD_eq_getElem?_getD, List.getElem?_set_ne h]
theorem getD_set_eq {ws : List Int} {i : Nat} {x : Int} (h : i < ws.length) : (ws.set i x).getD i 0 = x := by
  rw [List.getD_eq_getElem?_getD, List.getElem?_set_self h]
  rfl
theorem set_back {ws : List Int} {i : Nat} {x : Int} (h : i < ws.length) : (ws.set i x).set i (ws.getD i 0) = ws := by
  rw [List.set_set]
  apply List.ext_getElem?
  intro j
  by_cases e : i = j
  · subst e
    rw [List.getElem?_set_self h, List.getD_eq_getElem?_getD, List.getElem?_eq_getElem h]
    rfl
  · rw [List.getElem?_set_ne e]
theorem mod_back {x y m : Int} (h0 : 0 ≤ x) (h : x < m) : ((x + y) % m - y) % m = x := by
  rw [Int.sub_eq_add_neg, Int.emod_add_emod, show x + y + -y = x by omega, Int.emod_eq_of_lt h0 h]
theorem act_back {n v : Nat} {s : Int} {ws : List Int} {d : Dd} (hd : d.Ok n) (hn : ws.length = n) (hw : InW v ws) : d.act v (-s) (d.act v s ws) = ws := by
  have key : d.new v (-s) (d.act v s ws) = ws.getD d.pl 0 := by
    cases d with
    | add i j =>
      obtain ⟨h1, h2, h3⟩ := hd
      show ((ws.set i _).getD i 0 + -s * (ws.set i _).getD j 0) % 2 ^ v = ws.getD i 0
      rw [getD_set_eq (by omega), getD_set_ne h3]
      have := mod_back (y := s * ws.getD j 0) (hw.get i).1 (hw.get i).2
      rw [Int.neg_mul]
      exact this
    | xor i j =>
      obtain ⟨h1, h2, h3⟩ := hd
      show bx ((ws.set i _).getD i 0) ((ws.set i _).getD j 0) = ws.getD i 0
      rw [getD_set_eq (by omega), getD_set_ne h3]
      exact bx_back (hw.get i).1
    | and i j k =>
      obtain ⟨h1, h2, h3, h4, h5⟩ := hd
      show bx ((ws.set i _).getD i 0) (ba ((ws.set i _).getD j 0) ((ws.set i _).getD k 0)) = ws.getD i 0
      rw [getD_set_eq (by omega), getD_set_ne h4, getD_set_ne h5]
      exact bx_back (hw.get i).1
    | one i =>
      show ((ws.set i _).getD i 0 + -s) % 2 ^ v = ws.getD i 0
      rw [getD_set_eq (by show i < _; rw [hn]; exact hd)]
      exact mod_back (hw.get i).1 (hw.get i).2
  unfold Dd.act at key ⊢
  rw [key]
  exact set_back (by rw [hn]; exact d.pl_lt hd)
theorem act_twice {v : Nat} {ws : List Int} {d : Dd} (h : d.word = "xor" ∨ d.word = "and") (s t : Int) : d.act v s ws = d.act v t ws := by
  cases d with
  | add i j => exact h.elim (fun z => absurd (show ("add" : Str) = "xor" from z) (by decide)) fun z => absurd (show ("add" : Str) = "and" from z) (by decide)
  | xor i j => rfl
  | and i j k => rfl
  | one i => exact h.elim (fun z => absurd (show ("one" : Str) = "xor" from z) (by decide)) fun z => absurd (show ("one" : Str) = "and" from z) (by decide)

/-! ### slices -/
theorem sIx_nat (n d p : Nat) : HT.sIx n d (some (p : Int)) = min p n := by
  show (if (p : Int) < 0 then ((p : Int) + n).toNat else min (p : Int).toNat n) = _
  rw [if_neg (by omega), Int.toNat_natCast]
theorem cut_to {α : Type} {xs : List α} {p : Nat} (h : p ≤ xs.length) : cutA xs none (some (p : Int)) = xs.take p := by
  unfold cutA
  rw [sIx_nat, Nat.min_eq_left h]
  show (xs.drop 0).take (p - 0) = _
  rw [List.drop_zero, Nat.sub_zero]
theorem cut_from {α : Type} {xs : List α} {p : Nat} (h : p < xs.length) : cutA xs (some ((p : Int) + 1)) none = xs.drop (p + 1) := by
  have e : (p : Int) + 1 = ((p + 1 : Nat) : Int) := by omega
  unfold cutA
  rw [e, sIx_nat, Nat.min_eq_left h]
  show (xs.drop (p + 1)).take (xs.length - (p + 1)) = _
  rw [← List.length_drop, List.take_length]
theorem cut_mid {α : Type} {xs : List α} {p q : Nat} (h : q ≤ xs.length) (hp : p ≤ q) : cutA xs (some (p : Int)) (some (q : Int)) = (xs.drop p).take (q - p) := by
  unfold cutA
  rw [sIx_nat, sIx_nat, Nat.min_eq_left h, Nat.min_eq_left (Nat.le_trans hp h)]

/-! ### a bit of a word, as the laws ask it -/
theorem cdw {z : Int} {i : Nat} (hi : i ≤ 99) : CDivW z (1 * 2 ^ ((i : Int).toNat)) := by
  have pk : (0 : Int) < 1 * 2 ^ ((i : Int).toNat) := by
    rw [Int.one_mul]
    exact two_pow_pos _
  refine ⟨pk, Nat.lt_trans (log2_small (k := 100) (Int.le_of_lt pk) (by decide) ?_) (by decide)⟩
  rw [Int.one_mul]
  show (2 : Int) ^ i < 2 ^ 100
  have := Nat.pow_lt_pow_right (a := 2) (by decide) (show i < 100 by omega)
  have e1 : ((2 ^ i : Nat) : Int) = 2 ^ i := by norm_cast
  have e2 : ((2 ^ 100 : Nat) : Int) = 2 ^ 100 := by norm_cast
  omega
theorem cpw {i : Nat} (hi : i ≤ 99) : CPow 1 (i : Int) := ⟨Int.natCast_nonneg i, by omega, by decide⟩
theorem one_shl (i : Nat) : (1 : Int) * 2 ^ ((i : Int).toNat) = 2 ^ i := Int.one_mul _
theorem de_bitAt {X : Cx} {rs : Rs} {M : Mem} {ρ : List (Option Ab)} {a b : Expr} {z : Int} {i q q2 : Nat} {p p1 p2 p3 p4 p5 p6 : Pos} (hm : X.mg "int" = none) (ha : DE X rs M ρ a (Is (aI z))) (hb : DE X rs M ρ b (Is (aI i))) (hi : i ≤ 99) (hg : Gl X "int" := by rfl)
    (he : starEach [.BinOp a .FloorDiv (.BinOp (.Constant (.int 1) q p1) .LShift b p2) p3] X.env = (false, eval (.BinOp a .FloorDiv (.BinOp (.Constant (.int 1) q p1) .LShift b p2) p3) X.env) :: starEach [] X.env := by rfl) :
    DE X rs M ρ (.BinOp (.Call (.Name "int" p) [.BinOp a .FloorDiv (.BinOp (.Constant (.int 1) q p1) .LShift b p2) p3] [] p4) .Mod (.Constant (.int 2) q2 p5) p6) (Is (aI (bitI z i))) :=
  de_is (de_mod (de_intOf hm (de_div ha (de_shl de_int hb (cpw hi)) (cdw hi)) hg he) de_int (by decide)) (by rw [one_shl]; rfl)
theorem bitI_bx {x y : Int} (hx : 0 ≤ x) (hy : 0 ≤ y) (k : Nat) : bitI (bx x y) k = if bitI x k = bitI y k then 0 else 1 := by
  unfold bx
  rw [bitI_xor, Int.toNat_of_nonneg hx, Int.toNat_of_nonneg hy]
theorem bitI_ba {x y : Int} (hx : 0 ≤ x) (hy : 0 ≤ y) (k : Nat) : bitI (ba x y) k = bitI x k * bitI y k := by
  unfold ba
  rw [bitI_and, Int.toNat_of_nonneg hx, Int.toNat_of_nonneg hy]
/-- a sum, one bit more -/
theorem sum_step {x y c f r : Int} {i : Nat} (h : f + r * 2 ^ i = x % 2 ^ i + y % 2 ^ i + c) : (f + (bitI x i + bitI y i + r) % 2 * 2 ^ i) + (bitI x i + bitI y i + r) / 2 * 2 ^ (i + 1) = x % 2 ^ (i + 1) + y % 2 ^ (i + 1) + c := by
  rw [bitI_mod, bitI_mod, Int.pow_succ]
  have e := Int.emod_add_mul_ediv (bitI x i + bitI y i + r) 2
  generalize (bitI x i + bitI y i + r) % 2 = m at *
  generalize (bitI x i + bitI y i + r) / 2 = q at *
  generalize (2 : Int) ^ i = z at *
  have e2 : m * z + q * (z * 2) = (m + 2 * q) * z := by
    rw [Int.add_mul, Int.mul_comm z 2, ← Int.mul_assoc q 2 z, Int.mul_comm q 2]
  have e3 : (bitI x i + bitI y i + r) * z = bitI x i * z + bitI y i * z + r * z := by rw [Int.add_mul, Int.add_mul]
  rw [← e, ] at e3
  omega
theorem sum_end {x y c f r : Int} {v : Nat} (hx : 0 ≤ x ∧ x < 2 ^ v) (hy : 0 ≤ y ∧ y < 2 ^ v) (h : f + r * 2 ^ v = x % 2 ^ v + y % 2 ^ v + c) (h0 : 0 ≤ f) (h1 : f < 2 ^ v) : f = (x + y + c) % 2 ^ v := by
  rw [Int.emod_eq_of_lt hx.1 hx.2, Int.emod_eq_of_lt hy.1 hy.2] at h
  rw [← h, Int.add_mul_emod_self_right, Int.emod_eq_of_lt h0 h1]
/-! ### places -/
def nI (ps : List Nat) : List Int := ps.map Int.ofNat
theorem map_erase {α β : Type} (f : α → β) : ∀ (xs : List α) (j : Nat), (xs.map f).eraseIdx j = (xs.eraseIdx j).map f
  | [], _ => rfl
  | _ :: _, 0 => rfl
  | x :: xs, j + 1 => by
    show f x :: (xs.map f).eraseIdx j = f x :: (xs.eraseIdx j).map f
    rw [map_erase f xs j]
theorem perm_erase : ∀ {ls : List Nat} {r p : Nat}, ls[r]? = some p → (p :: ls.eraseIdx r).Perm ls
  | [], _, _, h => by simp at h
  | x :: ls, 0, p, h => by
    have h : some x = some p := h
    cases h
    exact List.Perm.refl _
  | x :: ls, r + 1, p, h => by
    have h : ls[r]? = some p := h
    exact (List.Perm.swap x p _).trans ((perm_erase h).cons x)
theorem nI_get {ps : List Nat} {i p : Nat} (h : ps[i]? = some p) : (((nI ps).map PyData.int).map Ab.d)[i]? = some (aI (p : Int)) := by
  unfold nI
  rw [List.map_map, List.map_map, List.getElem?_map, h]
  rfl
theorem nI_len (ps : List Nat) : (((nI ps).map PyData.int).map Ab.d).length = ps.length := by
  unfold nI
  rw [List.length_map, List.length_map, List.length_map]
theorem nI_erase (ps : List Nat) (j : Nat) : (((nI ps).map PyData.int).map Ab.d).eraseIdx j = ((nI (ps.eraseIdx j)).map PyData.int).map Ab.d := by
  unfold nI
  rw [map_erase, map_erase, map_erase]
theorem nI_snoc (ps : List Nat) (p : Nat) : ((nI ps).map PyData.int).map Ab.d ++ [aI (p : Int)] = ((nI (ps ++ [p])).map PyData.int).map Ab.d := by
  unfold nI
  rw [List.map_append, List.map_append, List.map_append]
  rfl
theorem perm_move {ps fs ls : List Nat} {r p : Nat} (h : ls[r]? = some p) (hp : (fs ++ ls).Perm ps) : (fs ++ [p] ++ ls.eraseIdx r).Perm ps := by
  refine List.Perm.trans ?_ hp
  rw [List.append_assoc]
  refine List.Perm.append_left fs ?_
  exact perm_erase h
end HW
namespace K05
open PySem PySem.Spec PyProof.Rows L2 RZ HW
def topS (i : Nat) : Stmt := PySem.Challenge.pw_homewords_k05_whole_deeds_done_and_undon.main.body.getD i (.Pass ⟨0, 0, 0, 0⟩)
abbrev s_done : Stmt := topS 1
abbrev N_done : List Str := ["w", "state", "deed"]
theorem sc_done : FnScope N_done ["w", "state", "deed"] (defScope s_done) := ⟨rfl, rfl, rfl, by decide +kernel, rfl, by decide +kernel, by decide +kernel⟩
abbrev s_undone : Stmt := topS 2
abbrev N_undone : List Str := ["w", "state", "deed"]
theorem sc_undone : FnScope N_undone ["w", "state", "deed"] (defScope s_undone) := ⟨rfl, rfl, rfl, by decide +kernel, rfl, by decide +kernel, by decide +kernel⟩
abbrev s_changed : Stmt := topS 3
abbrev N_changed : List Str := ["w", "state", "deed", "sign", "kind", "word"]
theorem sc_changed : FnScope N_changed ["w", "state", "deed", "sign"] (defScope s_changed) := ⟨rfl, rfl, rfl, by decide +kernel, rfl, by decide +kernel, by decide +kernel⟩
abbrev s_withWord : Stmt := topS 4
abbrev N_withWord : List Str := ["state", "place", "word"]
theorem sc_withWord : FnScope N_withWord ["state", "place", "word"] (defScope s_withWord) := ⟨rfl, rfl, rfl, by decide +kernel, rfl, by decide +kernel, by decide +kernel⟩
abbrev s_lawDeck : Stmt := topS 6
abbrev N_lawDeck : List Str := ["script", "cells", "mixed", "cell"]
theorem sc_lawDeck : FnScope N_lawDeck ["script"] (defScope s_lawDeck) := ⟨rfl, rfl, rfl, by decide +kernel, rfl, by decide +kernel, by decide +kernel⟩
abbrev s_lawDraw : Stmt := topS 7
abbrev N_lawDraw : List Str := ["deck", "many", "cell", "found", "turn"]
theorem sc_lawDraw : FnScope N_lawDraw ["deck", "many"] (defScope s_lawDraw) := ⟨rfl, rfl, rfl, by decide +kernel, rfl, by decide +kernel, by decide +kernel⟩
abbrev s_lawPick : Stmt := topS 8
abbrev N_lawPick : List Str := ["deck", "row"]
theorem sc_lawPick : FnScope N_lawPick ["deck", "row"] (defScope s_lawPick) := ⟨rfl, rfl, rfl, by decide +kernel, rfl, by decide +kernel, by decide +kernel⟩
abbrev s_lawMixed : Stmt := topS 9
abbrev N_lawMixed : List Str := ["deck", "row", "left", "found"]
theorem sc_lawMixed : FnScope N_lawMixed ["deck", "row"] (defScope s_lawMixed) := ⟨rfl, rfl, rfl, by decide +kernel, rfl, by decide +kernel, by decide +kernel⟩
abbrev s_lawWord : Stmt := topS 10
abbrev N_lawWord : List Str := ["deck", "w", "way", "found", "turn"]
theorem sc_lawWord : FnScope N_lawWord ["deck", "w"] (defScope s_lawWord) := ⟨rfl, rfl, rfl, by decide +kernel, rfl, by decide +kernel, by decide +kernel⟩
abbrev s_lawState : Stmt := topS 11
abbrev N_lawState : List Str := ["deck", "n", "w", "spot"]
theorem sc_lawState : FnScope N_lawState ["deck", "n", "w"] (defScope s_lawState) := ⟨rfl, rfl, rfl, by decide +kernel, rfl, by decide +kernel, by decide +kernel⟩
abbrev s_lawDeed : Stmt := topS 12
abbrev N_lawDeed : List Str := ["deck", "n", "words", "word", "places"]
theorem sc_lawDeed : FnScope N_lawDeed ["deck", "n", "words"] (defScope s_lawDeed) := ⟨rfl, rfl, rfl, by decide +kernel, rfl, by decide +kernel, by decide +kernel⟩
abbrev s_lawSum : Stmt := topS 13
abbrev N_lawSum : List Str := ["w", "one", "other", "carried", "found", "level", "first", "second", "many"]
theorem sc_lawSum : FnScope N_lawSum ["w", "one", "other", "carried"] (defScope s_lawSum) := ⟨rfl, rfl, rfl, by decide +kernel, rfl, by decide +kernel, by decide +kernel⟩
abbrev s_lawTurned : Stmt := topS 14
abbrev N_lawTurned : List Str := ["w", "one", "other", "found", "level", "first", "second"]
theorem sc_lawTurned : FnScope N_lawTurned ["w", "one", "other"] (defScope s_lawTurned) := ⟨rfl, rfl, rfl, by decide +kernel, rfl, by decide +kernel, by decide +kernel⟩
abbrev s_lawShared : Stmt := topS 15
abbrev N_lawShared : List Str := ["w", "one", "other", "found", "level", "first", "second"]
theorem sc_lawShared : FnScope N_lawShared ["w", "one", "other"] (defScope s_lawShared) := ⟨rfl, rfl, rfl, by decide +kernel, rfl, by decide +kernel, by decide +kernel⟩
abbrev s_lawDue : Stmt := topS 16
abbrev N_lawDue : List Str := ["w", "state", "deed", "is_back", "word", "spot", "own", "more"]
theorem sc_lawDue : FnScope N_lawDue ["w", "state", "deed", "is_back"] (defScope s_lawDue) := ⟨rfl, rfl, rfl, by decide +kernel, rfl, by decide +kernel, by decide +kernel⟩
abbrev s_lawIsRight : Stmt := topS 17
abbrev N_lawIsRight : List Str := ["deck", "n", "w", "state", "deed", "before", "due"]
theorem sc_lawIsRight : FnScope N_lawIsRight ["deck", "n", "w"] (defScope s_lawIsRight) := ⟨rfl, rfl, rfl, by decide +kernel, rfl, by decide +kernel, by decide +kernel⟩
abbrev s_law : Stmt := topS 18
abbrev N_law : List Str := ["script", "deck", "turn", "n", "w", "state", "deeds", "here", "deed"]
theorem sc_law : FnScope N_law ["script"] (defScope s_law) := ⟨rfl, rfl, rfl, by decide +kernel, rfl, by decide +kernel, by decide +kernel⟩
/-- what the top leaves -/
structure Txt (K : PySem.W.Frag) (mg : Str → Option Value) : Type where
  done : Df K mg "done" s_done
  undone : Df K mg "undone" s_undone
  changed : Df K mg "_changed" s_changed
  withWord : Df K mg "_with_word" s_withWord
  lawDeck : Df K mg "_law_deck" s_lawDeck
  lawDraw : Df K mg "_law_draw" s_lawDraw
  lawPick : Df K mg "_law_pick" s_lawPick
  lawMixed : Df K mg "_law_mixed" s_lawMixed
  lawWord : Df K mg "_law_word" s_lawWord
  lawState : Df K mg "_law_state" s_lawState
  lawDeed : Df K mg "_law_deed" s_lawDeed
  lawSum : Df K mg "_law_sum" s_lawSum
  lawTurned : Df K mg "_law_turned" s_lawTurned
  lawShared : Df K mg "_law_shared" s_lawShared
  lawDue : Df K mg "_law_due" s_lawDue
  lawIsRight : Df K mg "_law_is_right" s_lawIsRight
  law : Df K mg "law" s_law
  n_abs : mg "abs" = none
  n_int : mg "int" = none
  n_len : mg "len" = none
  n_list : mg "list" = none
  n_max : mg "max" = none
  n_min : mg "min" = none
  n_range : mg "range" = none
  n_repr : mg "repr" = none
  n_tuple : mg "tuple" = none
section
variable {P : Program} {w : World} {K : PySem.W.Frag} {mg : Str → Option Value} {base : Heap}
/-! ### the package's defs -/
theorem b_withWord (T : Txt K mg) : Binds K T.withWord.fd ["state", "place", "word"] [] := T.withWord.F.binds fun _ _ _ _ _ _ us hl => match us, hl with | [_, _, _], _ => rfl
theorem b_changed (T : Txt K mg) : Binds K T.changed.fd ["w", "state", "deed", "sign"] [] := T.changed.F.binds fun _ _ _ _ _ _ us hl => match us, hl with | [_, _, _, _], _ => rfl
theorem b_done (T : Txt K mg) : Binds K T.done.fd ["w", "state", "deed"] [] := T.done.F.binds fun _ _ _ _ _ _ us hl => match us, hl with | [_, _, _], _ => rfl
theorem b_undone (T : Txt K mg) : Binds K T.undone.fd ["w", "state", "deed"] [] := T.undone.F.binds fun _ _ _ _ _ _ us hl => match us, hl with | [_, _, _], _ => rfl
theorem kb_done (T : Txt K mg) : KBinds K T.done.fd ["w", "state", "deed"] ["deed", "state", "w"] gR gR := kb_rev T.done.F (by decide) fun _ _ _ _ _ _ us hl => match us, hl with | [_, _, _], _ => rfl
theorem kb_undone (T : Txt K mg) : KBinds K T.undone.fd ["w", "state", "deed"] ["deed", "state", "w"] gR gR := kb_rev T.undone.F (by decide) fun _ _ _ _ _ _ us hl => match us, hl with | [_, _, _], _ => rfl
def S_withWord (rs : Rs) (M : Mem) (as : List Ab) (R : Ab → Prop) : Prop := ∃ (ws : List Int) (p : Nat) (x : Int), as = [aT (ws.map .int), aI p, aI x] ∧ p < ws.length ∧ ws.length ≤ 100 ∧ R = Is (aT ((ws.set p x).map .int))
theorem ok_withWord (T : Txt K mg) : FnG P w K mg base CX0 1 T.withWord.f T.withWord.fd ["state", "place", "word"] (Spec K S_withWord) := by
  refine fn_go T.withWord.F sc_withWord (fun rs M as R ⟨_, _, _, h, _⟩ => by rw [h]; rfl) fun cdv A outer s H0 E room gd rs M as R t ro => ?_
  obtain ⟨ws, p, x, rfl, hp, hl, rfl⟩ := t
  have l1 := cutA_length (ws.map PyData.int) none (some (p : Int))
  have l2 := cutA_length (ws.map PyData.int) (some ((p : Int) + 1)) none
  rw [List.length_map] at l1 l2
  refine ds_one (ds_ret (R := Is (aT ((ws.set p x).map .int))) (de_is (de_catT (de_catT (de_slT (de_var 0 rfl) do_none (do_some (de_var 1 rfl))) (de_tup (ds := [.int x]) (da_cons (de_var 2 rfl) da_nil)) (by show _ + 1 ≤ _; omega)) (de_slT (de_var 0 rfl) (do_some (de_add (de_var 1 rfl) de_int)) do_none) (by rw [List.length_append]; show _ + 1 + _ ≤ _; omega)) (congrArg aT ?_)) fun a ha => ⟨rfl, ha⟩)
  rw [cut_to (by rw [List.length_map]; omega), cut_from (by rw [List.length_map]; omega)]
  rw [List.set_eq_take_append_cons_drop, if_pos hp, List.map_append, List.map_cons, List.map_take, List.map_drop, List.append_assoc]
  rfl
def S_changed (rs : Rs) (M : Mem) (as : List Ab) (R : Ab → Prop) : Prop := ∃ (v n : Nat) (s : Int) (ws : List Int) (d : Dd), as = [aI v, aT (ws.map .int), aT d.row, aI s] ∧ ws.length = n ∧ n ≤ 100 ∧ v ≤ 64 ∧ (s = 1 ∨ s = -1) ∧ d.Ok n ∧ InW v ws ∧ R = Is (aI (d.new v s ws))
theorem at_word {ws : List Int} {i : Nat} (h : i < ws.length) : atI ((ws.map PyData.int).map Ab.d) (i : Int) = some (aI (ws.getD i 0)) := atI_nat (by
  rw [List.map_map, List.getElem?_map, List.getElem?_eq_getElem h, List.getD_eq_getElem?_getD, List.getElem?_eq_getElem h]
  rfl)
theorem bitXor_bx {x y : Int} (hx : 0 ≤ x) (hy : 0 ≤ y) : Builtin.bitXor x y = bx x y := Bits.bitXor_pp hx hy
theorem bitAnd_ba {x y : Int} (hx : 0 ≤ x) (hy : 0 ≤ y) : Builtin.bitAnd x y = ba x y := by
  obtain ⟨a, rfl⟩ := Int.eq_ofNat_of_zero_le hx
  obtain ⟨b, rfl⟩ := Int.eq_ofNat_of_zero_le hy
  rfl
theorem strne {s t : Str} {c : Bool} (h : c = decide (s = t)) (n : (s == t) = false) : c = false := by
  rw [h]
  exact decide_eq_false fun e => by rw [e, beq_self_eq_true] at n; cases n
theorem ok_changed (T : Txt K mg) : FnG P w K mg base CX0 1 T.changed.f T.changed.fd ["w", "state", "deed", "sign"] (Spec K S_changed) := by
  refine fn_go T.changed.F sc_changed (fun rs M as R ⟨_, _, _, _, _, h, _⟩ => by rw [h]; rfl) fun cdv A outer s' H0 E room gd rs M as R t ro => ?_
  obtain ⟨v, n, s, ws, d, rfl, hn, hn2, hv, hs, hd, hw, rfl⟩ := t
  have nd := sc_changed.nd
  have hpl := d.pl_lt hd
  have sh : CPow 1 (v : Int) := ⟨Int.natCast_nonneg v, by omega, by decide⟩
  have pk : (0 : Int) < 1 * 2 ^ ((v : Int).toNat) := by
    rw [Int.one_mul]
    exact two_pow_pos _
  have ek : (1 : Int) * 2 ^ ((v : Int).toNat) = 2 ^ v := Int.one_mul _
  refine ds_cons (ds_set 4 (R := Is (aS d.word)) (de_is (de_ix (y := aS d.word) (de_var 2 rfl) de_int (seqs_t _) (by cases d <;> rfl)) rfl) (fun a ha => ?_) nd)
  subst ha
  refine ds_cons (ds_set 5 (R := Is (aI (ws.getD d.pl 0))) (de_ix (de_var 1 rfl) (de_ix (y := aI d.pl) (de_var 2 rfl) de_int (seqs_t _) (by cases d <;> rfl)) (seqs_t _) (at_word (by omega))) (fun a ha => ?_) nd)
  subst ha
  show DSs _ _ ⟨rs, M, [some (aI v), some (aT (ws.map .int)), some (aT d.row), some (aI s), some (aS d.word), some (aI (ws.getD d.pl 0))]⟩ _ _
  have no : ∀ {s t : Str} {c : Bool} {Q : Prop}, (s == t) = false → c = decide (s = t) → c = true → Q := fun n h e => by rw [strne h n] at e; cases e
  have yes : ∀ {s : Str} {Q : Prop}, false = decide (s = s) → Q := fun h => by rw [decide_eq_true rfl] at h; cases h
  cases d with
  | xor i j =>
    obtain ⟨h1, h2, h3⟩ := hd
    refine ds_cons (ds_if (dt_eqS (de_var 4 rfl) de_str) (fun _ => ds_one (ds_ret (R := Is (aI (Dd.new v s ws (.xor i j)))) (de_is (de_bxor (de_var 5 rfl) (de_ix (de_var 1 rfl) (de_ix (y := aI j) (de_var 2 rfl) de_int (seqs_t _) rfl) (seqs_t _) (at_word (by omega)))) ?_) fun a ha => ⟨rfl, ha⟩)) fun h => yes h)
    exact congrArg aI (bitXor_bx (hw.get i).1 (hw.get j).1)
  | and i j k =>
    obtain ⟨h1, h2, h3, h4, h5⟩ := hd
    refine ds_cons (ds_if (dt_eqS (de_var 4 rfl) de_str) (fun h => no rfl h rfl) fun _ => ds_nil ?_)
    refine ds_cons (ds_if (dt_eqS (de_var 4 rfl) de_str) (fun _ => ds_one (ds_ret (R := Is (aI (Dd.new v s ws (.and i j k)))) (de_is (de_bxor (de_var 5 rfl) (de_band (de_ix (de_var 1 rfl) (de_ix (y := aI j) (de_var 2 rfl) de_int (seqs_t _) rfl) (seqs_t _) (at_word (by omega))) (de_ix (de_var 1 rfl) (de_ix (y := aI k) (de_var 2 rfl) de_int (seqs_t _) rfl) (seqs_t _) (at_word (by omega))))) ?_) fun a ha => ⟨rfl, ha⟩)) fun h => yes h)
    rw [bitAnd_ba (hw.get j).1 (hw.get k).1]
    exact congrArg aI (bitXor_bx (hw.get i).1 (ba_range (hw.get j) (hw.get k)).1)
  | one i =>
    refine ds_cons (ds_if (dt_eqS (de_var 4 rfl) de_str) (fun h => no rfl h rfl) fun _ => ds_nil ?_)
    refine ds_cons (ds_if (dt_eqS (de_var 4 rfl) de_str) (fun h => no rfl h rfl) fun _ => ds_nil ?_)
    refine ds_cons (ds_if (dt_eqS (de_var 4 rfl) de_str) (fun _ => ds_one (ds_ret (R := Is (aI (Dd.new v s ws (.one i)))) (de_is (de_mod (de_add (de_var 5 rfl) (de_var 3 rfl)) (de_shl de_int (de_var 0 rfl) sh) pk) ?_) fun a ha => ⟨rfl, ha⟩)) fun h => yes h)
    rw [ek]
    rfl
  | add i j =>
    obtain ⟨h1, h2, h3⟩ := hd
    refine ds_cons (ds_if (dt_eqS (de_var 4 rfl) de_str) (fun h => no rfl h rfl) fun _ => ds_nil ?_)
    refine ds_cons (ds_if (dt_eqS (de_var 4 rfl) de_str) (fun h => no rfl h rfl) fun _ => ds_nil ?_)
    refine ds_cons (ds_if (dt_eqS (de_var 4 rfl) de_str) (fun h => no rfl h rfl) fun _ => ds_nil ?_)
    refine ds_one (ds_ret (R := Is (aI (Dd.new v s ws (.add i j)))) (de_is (de_mod (de_add (de_var 5 rfl) (de_mul (de_var 3 rfl) (de_ix (de_var 1 rfl) (de_ix (y := aI j) (de_var 2 rfl) de_int (seqs_t _) rfl) (seqs_t _) (at_word (by omega))) (.inl ?_))) (de_shl de_int (de_var 0 rfl) sh) pk) ?_) fun a ha => ⟨rfl, ha⟩)
    · rcases hs with rfl | rfl <;> exact ⟨by decide, by decide⟩
    · rw [ek]
      rfl
def S_done (sg : Int) (rs : Rs) (M : Mem) (as : List Ab) (R : Ab → Prop) : Prop := ∃ (v n : Nat) (ws : List Int) (d : Dd), as = [aI v, aT (ws.map .int), aT d.row] ∧ ws.length = n ∧ n ≤ 100 ∧ v ≤ 64 ∧ d.Ok n ∧ InW v ws ∧ R = Is (aT ((d.act v sg ws).map .int))
theorem ok_done (T : Txt K mg) : FnG P w K mg base CX0 2 T.done.f T.done.fd ["w", "state", "deed"] (Spec K (S_done 1)) := by
  refine fn_go T.done.F sc_done (fun rs M as R ⟨_, _, _, _, h, _⟩ => by rw [h]; rfl) fun cdv A outer s' H0 E room gd rs M as R t ro => ?_
  obtain ⟨v, n, ws, d, rfl, hn, hn2, hv, hd, hw, rfl⟩ := t
  have hpl := d.pl_lt hd
  exact ds_one (ds_ret (de_call (E := E0) (R := Is (aT ((d.act v 1 ws).map .int))) (ok_withWord T) room gd rfl T.withWord.g T.withWord.F.kp (b_withWord T) pass0 (da_cons (de_var 1 rfl) (da_cons (de_ix (y := aI d.pl) (de_var 2 rfl) de_int (seqs_t _) (by cases d <;> rfl)) (da_cons (de_call (E := E0) (R := Is (aI (d.new v 1 ws))) (ok_changed T) room gd rfl T.changed.g T.changed.F.kp (b_changed T) pass0 (da_cons (de_var 0 rfl) (da_cons (de_var 1 rfl) (da_cons (de_var 2 rfl) (da_cons de_int da_nil))))
    fun as h => ⟨v, n, 1, ws, d, h, hn, hn2, hv, .inl rfl, hd, hw, rfl⟩) da_nil))) fun as h => ⟨ws, d.pl, d.new v 1 ws, h, by omega, by omega, rfl⟩) fun a ha => ⟨rfl, ha⟩)
theorem ok_undone (T : Txt K mg) : FnG P w K mg base CX0 2 T.undone.f T.undone.fd ["w", "state", "deed"] (Spec K (S_done (-1))) := by
  refine fn_go T.undone.F sc_undone (fun rs M as R ⟨_, _, _, _, h, _⟩ => by rw [h]; rfl) fun cdv A outer s' H0 E room gd rs M as R t ro => ?_
  obtain ⟨v, n, ws, d, rfl, hn, hn2, hv, hd, hw, rfl⟩ := t
  have hpl := d.pl_lt hd
  exact ds_one (ds_ret (de_call (E := E0) (R := Is (aT ((d.act v (-1) ws).map .int))) (ok_withWord T) room gd rfl T.withWord.g T.withWord.F.kp (b_withWord T) pass0 (da_cons (de_var 1 rfl) (da_cons (de_ix (y := aI d.pl) (de_var 2 rfl) de_int (seqs_t _) (by cases d <;> rfl)) (da_cons (de_call (E := E0) (R := Is (aI (d.new v (-1) ws))) (ok_changed T) room gd rfl T.changed.g T.changed.F.kp (b_changed T) pass0 (da_cons (de_var 0 rfl) (da_cons (de_var 1 rfl) (da_cons (de_var 2 rfl) (da_cons (de_neg de_int) da_nil))))
    fun as h => ⟨v, n, -1, ws, d, h, hn, hn2, hv, .inr rfl, hd, hw, rfl⟩) da_nil))) fun as h => ⟨ws, d.pl, d.new v (-1) ws, h, by omega, by omega, rfl⟩) fun a ha => ⟨rfl, ha⟩)

/-! ### the law's own readers -/
theorem b_lawDraw (T : Txt K mg) : Binds K T.lawDraw.fd ["deck", "many"] [] := T.lawDraw.F.binds fun _ _ _ _ _ _ us hl => match us, hl with | [_, _], _ => rfl
def S_lawDraw (rs : Rs) (M : Mem) (as : List Ab) (R : Ab → Prop) : Prop := ∃ (D C : Addr) (many : Int), rs = deckRs D C ∧ as = [.at D, aI many] ∧ 1 ≤ many ∧ many < 2 ^ 1000 ∧ R = Below many
theorem ok_lawDraw (T : Txt K mg) : FnG P w K mg base CX0 1 T.lawDraw.f T.lawDraw.fd ["deck", "many"] (Spec K S_lawDraw) := by
  refine fn_goF T.lawDraw.F sc_lawDraw (fun rs M as R ⟨_, _, _, _, h, _⟩ => by rw [h]; rfl) fun cdv A outer s H0 E room gd rs M as R t ro G H vs reps ok => ?_
  obtain ⟨D, C, many, rfl, rfl, h1, h2, rfl⟩ := t
  have nd := sc_lawDraw.nd
  obtain ⟨cells, m, c, ok1, hl⟩ := deck_open ok
  refine ⟨rs0, deckM D C cells m c, ok1, fun e he _ => ?_, fun b h => h.elim, ?_⟩
  · rcases List.mem_cons.mp he with rfl | he
    · exact .inl rfl
    · exact .inr (List.mem_singleton.mp he ▸ rfl)
  have fin : ∀ {cells : List Int} {m c : Int} {a : Ab}, cells.length ≤ 63 → Below many a → Below many a ∧ ∀ G H, Ok K rs0 (deckM D C cells m c) G H → (deckRs D C).I H := fun hl ha => ⟨ha, fun G H o => deck_close o hl⟩
  -- the first cell's next digit
  refine ds_cons (ds_if (T := fun b => b = true → cells ≠ []) (PW.pt (dw_and (T := fun b => b = true → cells ≠ []) (dt_imp (dt_neD room.units (de_ix (de_var 0 rfl) de_int (seqs_at List.mem_cons_self) rfl) (de_lst (ds := []) da_nil) (view_at (List.mem_cons_of_mem _ List.mem_cons_self)) (view_d _) (shaped_ints cells) rfl) fun b hb e => ?_)
    (fun h => dw_and1 (dt_gt (de_var 1 rfl) de_int)) (fun h b _ _ => h rfl) (fun _ h => nomatch h))) (fun h => ?_) fun _ => ds_nil ?_)
  · rintro rfl
    subst e
    rw [eqv_nil] at hb
    cases hb
  · match cells, hl, h rfl with
    | x :: r, hl, _ =>
      refine ds_cons (ds_setX (R := fun S' a => S' = ⟨rs0, deckM D C r m c, startA N_lawDraw [.at D, aI many]⟩ ∧ a = aI x) 2 (dx_list (k := 1) (xs := (((x :: r).map .int).map .d)) PySem.F.slot_list_pop PySem.F.type_list_pop mt_popAt (de_ix (de_var 0 rfl) de_int (seqs_at List.mem_cons_self) rfl) rfl
        (dax_cons (dx_of de_int fun a ha => dax_nil ?_))) (fun S' a ⟨h1, h2⟩ => ?_) nd)
      · subst ha
        exact lm_popAt (k := 1) (j := 0) rfl (by decide) (by decide) (ixN_seq (ixN_nat (by simp))).1 rfl ⟨rfl, rfl⟩
      subst h1 h2
      refine ds_cut (fun S' => ∃ cells' : List Int, cells'.length ≤ 63 ∧ S' = ⟨rs0, deckM D C cells' m c, [some (.at D), some (aI many), some (aI x), none, none]⟩)
        (ds_if (dt_ge (de_var 2 rfl) (de_var 1 rfl)) (fun _ => ds_one (ds_exprX (R := fun S' a => S' = ⟨rs0, deckM D C (x / many :: r) m c, [some (.at D), some (aI many), some (aI x), none, none]⟩) (dx_list (k := 1) (xs := ((r.map .int).map .d)) PySem.F.slot_list_insert PySem.F.type_list_insert mt_insertI (de_ix (de_var 0 rfl) de_int (seqs_at List.mem_cons_self) rfl) rfl
        (dax_cons (dx_of de_int fun a ha => dax_cons (dx_of (de_div (de_var 2 rfl) (de_var 1 rfl) ⟨by omega, Nat.lt_trans (log2_small (k := 1000) (by omega) (by decide) h2) (by decide)⟩) fun b hb => dax_nil ?_)))) fun S' a e => ?_)) fun _ => ds_nil ⟨r, by simp at hl; omega, rfl⟩) fun S' ⟨cells', hl', e⟩ => ?_
      · subst ha hb
        exact lm_insert (k := 1) rfl (by simp at hl ⊢; omega) (by decide) (by decide) rfl
      · exact ⟨x / many :: r, by simpa using hl, e⟩
      · subst e
        exact ds_one (ds_ret (de_mod (de_intOf T.n_int (de_var 2 rfl)) (de_var 1 rfl) (by omega)) fun a ha => fin hl' ⟨_, ha, Int.emod_nonneg _ (by omega), Int.emod_lt_of_pos _ (by omega)⟩)
  -- the mixed number
  refine ds_cons (ds_setItem (k := 0) (j := 2) (R := Is (aI (c + 1))) (de_add (de_ix (de_var 0 rfl) de_int (seqs_at List.mem_cons_self) rfl) de_int) (de_var 0 rfl) de_int rfl rfl (fun a ha => ?_) (pg_sub (de_var 0 rfl) de_int set_list))
  subst ha
  refine ds_cons (ds_set 3 (R := fun a => ∃ f : Int, a = aI f ∧ 0 ≤ f ∧ f < 4294967296) (de_imp (de_mod (de_intOf T.n_int (de_add (de_ix (de_var 0 rfl) de_int (seqs_at List.mem_cons_self) rfl) (de_mul de_int (de_ix (de_var 0 rfl) de_int (seqs_at List.mem_cons_self) rfl) (.inl ⟨by decide, by decide⟩)))) de_int (by decide)) fun a ha => ⟨_, ha, Int.emod_nonneg _ (by decide), Int.lt_trans (Int.emod_lt_of_pos _ (by decide)) (by decide)⟩) (fun a ha => ?_) nd)
  obtain ⟨f, rfl, f0, f1⟩ := ha
  refine ds_cons (ds_for (fun n item i S => S.rs = rs0 ∧ S.M = deckM D C cells m (c + 1) ∧ ∃ f : Int, ∃ y2 y4, S.ρ = [some (.at D), some (aI many), y2, some (aI f), y4] ∧ 0 ≤ f ∧ f < 4294967296) (RI := fun n item => item = AtR 0) (di_range1 rfl T.n_range (da_cons de_int da_nil) fun as h => ⟨2, h, by decide, by decide, rfl⟩)
    (dg_name 4 nd) (fun n item _ => ⟨rfl, rfl, f, _, _, rfl, f0, f1⟩) (fun n item i S a hi hlt ⟨e1, e2, f, y2, y4, e3, f0, f1⟩ ia => ?_) (fun n item S hi ⟨e1, e2, f, y2, y4, e3, f0, f1⟩ => ?_) PassesOwn.never rfl)
  · subst hi
    subst ia
    obtain ⟨rs', M', ρ'⟩ := S
    cases e1
    cases e2
    cases e3
    refine ⟨_, rfl, ds_one (ds_set 3 (R := fun a => ∃ f : Int, a = aI f ∧ 0 ≤ f ∧ f < 4294967296) (de_imp (de_mod (de_intOf T.n_int (de_add (de_add (de_add (de_mul (de_var 3 rfl) (de_var 3 rfl) (.inl ⟨by omega, by omega⟩)) (de_mul de_int (de_ix (de_var 0 rfl) de_int (seqs_at List.mem_cons_self) rfl) (.inl ⟨by decide, by decide⟩))) de_int) (de_var 4 rfl))) de_int (by decide))
      fun a ha => ⟨_, ha, Int.emod_nonneg _ (by decide), Int.lt_trans (Int.emod_lt_of_pos _ (by decide)) (by decide)⟩) (fun a ha => ?_) nd)⟩
    obtain ⟨g, rfl, g0, g1⟩ := ha
    exact ⟨rfl, rfl, g, _, _, rfl, g0, g1⟩
  · obtain ⟨rs', M', ρ'⟩ := S
    cases e1
    cases e2
    cases e3
    exact ds_one (ds_ret (de_mod (de_intOf T.n_int (de_div (de_var 3 rfl) de_int ⟨by decide, by decide⟩)) (de_var 1 rfl) (by omega)) fun a ha => fin hl ⟨_, ha, Int.emod_nonneg _ (by omega), Int.emod_lt_of_pos _ (by omega)⟩)

theorem ok_lawDeck (T : Txt K mg) : FnG P w K mg base CX0 1 T.lawDeck.f T.lawDeck.fd ["script"] (SpecDeck K) := by
  refine fn_deck T.lawDeck.F sc_lawDeck rfl fun cdv A outer s H0 E room gd ns hl => ?_
  have nd := sc_lawDeck.nd
  refine ds_cons (ds_par (i := 1) (j := 2) rfl nd (dax_cons (dx_of (R := fun a => ∃ cs : List Int, a = aL (cs.map .int) ∧ cs.length ≤ 63) (de_imp (de_lc1 (N := N_lawDeck) (sc := defScope s_lawDeck) 3 (n0 := (cutA ns none (some 63)).length) (item0 := AtD ((cutA ns none (some 63)).map .int))
    (f := fun i => .int (deckCell ((cutA ns none (some 63)).getD i 0)))
    (di_list (de_of_dn (R := Is (aL ((cutA ns none (some 63)).map .int))) (dn_slL (de_var 0 rfl) (seqL_scr ns) do_none (do_some de_int)) fun as h => ⟨(cutA ns none (some 63)).map .int, by rw [h, cutA_map, cutA_map], rfl⟩) fun y h => ⟨_, h, by rw [List.length_map], rfl⟩) nd (by decide +kernel) (by have := cutA_length ns none (some 63); omega)
    (fun i a hi ia => fun s H C cl fp => ?_) (fun s H C cl fp => dg_name 3 nd)) fun a ha => ?_) fun a ha => dax_cons (dx_of (de_add de_int (de_len T.n_len (de_var 0 rfl) (seqs_scr ns))) fun b hb => dax_nil ⟨a, b, rfl, ?_⟩))))
  · obtain ⟨x, hx, rfl⟩ := atD_ints ia
    rw [getD_of hx]
    exact de_add (de_mul de_int (de_abs T.n_abs (de_var 3 rfl)) (.inl ⟨by decide, by decide⟩)) (de_intOfB T.n_int (de_lt (de_var 3 rfl) de_int))
  · refine ⟨(List.range (cutA ns none (some 63)).length).map fun i => deckCell ((cutA ns none (some 63)).getD i 0), ?_, ?_⟩
    · rw [ha, List.map_map]
      rfl
    · rw [List.length_map, List.length_range]
      exact Nat.le_trans (cutA_length ns none (some 63)) hl
  obtain ⟨cs, rfl, hc⟩ := ha
  subst hb
  refine ds_cons (ds_for (fun n item i S => S.rs = rs0 ∧ S.M = [] ∧ ∃ m : Int, ∃ y3, S.ρ = [some (aScr K ns), some (aL (cs.map .int)), some (aI m), y3]) (RI := fun n item => item = AtD (cs.map .int)) (di_list (de_var 1 rfl) fun y h => ⟨_, h, rfl⟩) (dg_name 3 nd) (fun n item _ => ⟨rfl, rfl, _, _, rfl⟩)
    (fun n item i S a hi hlt ⟨e1, e2, m, y3, e3⟩ ia => ?_) (fun n item S hi ⟨e1, e2, m, y3, e3⟩ => ?_) PassesOwn.never rfl)
  · subst hi
    obtain ⟨x, hx, rfl⟩ := atD_ints ia
    obtain ⟨rs', M', ρ'⟩ := S
    cases e1
    cases e2
    cases e3
    exact ⟨_, rfl, ds_one (ds_set 2 (de_mod (de_intOf T.n_int (de_add (de_add (de_mul (de_var 2 rfl) de_int (.inr ⟨by decide, by decide⟩)) (de_var 3 rfl)) de_int)) de_int (by decide)) (fun a ha => by subst ha; exact ⟨rfl, rfl, _, _, rfl⟩) nd)⟩
  · obtain ⟨rs', M', ρ'⟩ := S
    cases e1
    cases e2
    cases e3
    refine ds_one (ds_retX (dx_lst (dax_cons (dx_new (T := fun as => ∃ ds : List Int, as = (ds.map .int).map .d ∧ ds.length ≤ 63) (dn_lc (own := [("cell", 3)]) (fun n item i acc => ∃ ds : List Int, acc = (ds.map .int).map .d ∧ ds.length ≤ i) (RI := fun n item => n = cs.length ∧ item = AtD (cs.map .int)) (di_list (de_var 1 rfl) fun y h => ⟨_, h, by rw [List.length_map], rfl⟩)
      rfl nd (blkOk_by (N := N_lawDeck) (sc := defScope s_lawDeck) (by decide +kernel)) (fun s H C cl fp => dg_name 3 nd) (fun _ _ _ => ⟨[], rfl, Nat.le_refl _⟩) (fun n item i acc a ⟨h1, h2⟩ hlt ha ia => ?_) (fun n item acc ⟨h1, h2⟩ ha => ?_) (fun i h => h)) fun q as has => dax_cons (dx_of (de_var 2 rfl) fun b hb => dax_cons (dx_of de_int fun c hc' => dax_nil ⟨by show 3 ≤ 100000; decide, fun q2 => ?_⟩)))))
      (R := fun S' a => S'.rs = rs0 ∧ ∃ D C cells m c, S'.M = deckM D C cells m c ∧ a = .at D ∧ cells.length ≤ 63) fun S' a h => h)
    · subst h1 h2
      obtain ⟨x, hx, rfl⟩ := atD_ints ia
      obtain ⟨ds, rfl, hd⟩ := ha
      refine ⟨by rw [List.length_map, List.length_map]; omega, _, fun _ => True, rfl, fun s H C cl fp => dts_one (dt_imp (dt_gt (de_var 3 rfl) (de_pow de_int de_int ⟨by decide, by decide, by decide⟩)) fun _ _ => trivial), fun _ => fun s H C cl fp => de_imp (de_var 3 rfl) fun z hz => ⟨ds ++ [x], ?_, ?_⟩, fun _ => ⟨ds, rfl, by omega⟩⟩
      · rw [hz, List.map_append, List.map_append]
        rfl
      · rw [List.length_append, List.length_singleton]
        omega
    · obtain ⟨ds, e, hd⟩ := ha
      exact ⟨ds, e, by omega⟩
    · obtain ⟨ds, rfl, hd⟩ := has
      subst hb hc'
      exact ⟨rfl, q2, q, ds, _, _, rfl, rfl, hd⟩
theorem b_lawPick (T : Txt K mg) : Binds K T.lawPick.fd ["deck", "row"] [] := T.lawPick.F.binds fun _ _ _ _ _ _ us hl => match us, hl with | [_, _], _ => rfl
def S_lawPick (rs : Rs) (M : Mem) (as : List Ab) (R : Ab → Prop) : Prop := ∃ (D C : Addr) (ds : List PyData), rs = deckRs D C ∧ as = [.at D, aL ds] ∧ ds ≠ [] ∧ ds.length ≤ 100000 ∧ ∀ d ∈ ds, R (.d d)
theorem ok_lawPick (T : Txt K mg) : FnG P w K mg base CX0 2 T.lawPick.f T.lawPick.fd ["deck", "row"] (Spec K S_lawPick) := by
  refine fn_go T.lawPick.F sc_lawPick (fun rs M as R ⟨_, _, _, _, h, _⟩ => by rw [h]; rfl) fun cdv A outer s H0 E room gd rs M as R t ro => ?_
  obtain ⟨D, C, ds, rfl, rfl, hd, hl, hR⟩ := t
  have hp : 0 < ds.length := List.length_pos_iff.mpr hd
  refine ds_one (ds_ret (R := R) (de_ixR (de_var 1 rfl) (de_call (E := E0) (R := Below ds.length) (ok_lawDraw T) room gd rfl T.lawDraw.g T.lawDraw.F.kp (b_lawDraw T) pass0 (da_cons (de_var 0 rfl) (da_cons (de_len T.n_len (de_var 1 rfl) (seqs_l _)) da_nil)) fun as h =>
    ⟨D, C, ds.length, rfl, by rw [h, List.length_map], by omega, Int.lt_of_le_of_lt (b := 100000) (by omega) (by decide), rfl⟩) (seqs_l _) fun z ⟨r, hz, r0, r1⟩ => ?_) fun a ha => ⟨rfl, ha⟩)
  obtain ⟨k, rfl⟩ := Int.eq_ofNat_of_zero_le r0
  have hk : k < ds.length := by omega
  exact ⟨k, .d ds[k], hz, atI_nat (by rw [List.getElem?_map, List.getElem?_eq_getElem hk]; rfl), hR _ (List.getElem_mem hk)⟩
theorem b_lawWord (T : Txt K mg) : Binds K T.lawWord.fd ["deck", "w"] [] := T.lawWord.F.binds fun _ _ _ _ _ _ us hl => match us, hl with | [_, _], _ => rfl
def S_lawWord (rs : Rs) (M : Mem) (as : List Ab) (R : Ab → Prop) : Prop := ∃ (D C : Addr) (k : Nat), rs = deckRs D C ∧ as = [.at D, aI k] ∧ 1 ≤ k ∧ k ≤ 64 ∧ R = Below (2 ^ k)
theorem ok_lawWord (T : Txt K mg) : FnG P w K mg base CX0 2 T.lawWord.f T.lawWord.fd ["deck", "w"] (Spec K S_lawWord) := by
  refine fn_go T.lawWord.F sc_lawWord (fun rs M as R ⟨_, _, _, _, h, _⟩ => by rw [h]; rfl) fun cdv A outer s H0 E room gd rs M as R t ro => ?_
  obtain ⟨D, C, k, rfl, rfl, h1, h2, rfl⟩ := t
  have nd := sc_lawWord.nd
  have pw : (0 : Int) < 1 * 2 ^ ((k : Int).toNat) := by
    rw [Int.one_mul]
    exact two_pow_pos _
  have ew : (1 : Int) * 2 ^ ((k : Int).toNat) = 2 ^ k := Int.one_mul _
  have sh : CPow 1 (k : Int) := ⟨Int.natCast_nonneg k, by omega, by decide⟩
  refine ds_cons (ds_set 2 (de_call (E := E0) (R := Below 9) (ok_lawDraw T) room gd rfl T.lawDraw.g T.lawDraw.F.kp (b_lawDraw T) pass0 (da_cons (de_var 0 rfl) (da_cons de_int da_nil)) fun as h => ⟨D, C, 9, rfl, h, by decide, by decide, rfl⟩) (fun a ha => ?_) nd)
  obtain ⟨way, rfl, w0, w1⟩ := ha
  refine ds_cons (ds_if (dt_lt (de_var 2 rfl) de_int) (fun hw => ?_) fun hw => ds_nil ?_)
  · have hw : way < 4 := of_decide_eq_true hw.symm
    have at_ : ∃ v : Int, atI ([PyData.int 0, .int 1, .int (1 * 2 ^ ((k : Int).toNat) - 1), .int (1 * 2 ^ (((k : Int) - 1).toNat))].map Ab.d) way = some (aI v) := by
      have : way = 0 ∨ way = 1 ∨ way = 2 ∨ way = 3 := by omega
      rcases this with rfl | rfl | rfl | rfl
      · exact ⟨_, rfl⟩
      · exact ⟨_, rfl⟩
      · exact ⟨_, rfl⟩
      · exact ⟨_, rfl⟩
    obtain ⟨v, hv⟩ := at_
    refine ds_one (ds_ret (de_mod (de_ix (de_lst (ds := [PyData.int 0, .int 1, .int (1 * 2 ^ ((k : Int).toNat) - 1), .int (1 * 2 ^ (((k : Int) - 1).toNat))]) (da_cons de_int (da_cons de_int (da_cons (de_sub (de_shl de_int (de_var 1 rfl) sh) de_int) (da_cons (de_shl de_int (de_sub (de_var 1 rfl) de_int) ⟨by omega, by omega, by decide⟩) da_nil)))) rfl (by show 4 ≤ 100000; decide)) (de_var 2 rfl) (seqs_l _) hv)
      (de_shl de_int (de_var 1 rfl) sh) pw) fun a ha => ⟨rfl, _, ha, Int.emod_nonneg _ (Int.ne_of_gt pw), by rw [← ew]; exact Int.emod_lt_of_pos _ pw⟩)
  refine ds_cons (ds_if (dt_eqI (de_var 2 rfl) de_int) (fun hw => ?_) fun hw => ds_nil ?_)
  · refine ds_one (ds_ret (R := Below (2 ^ k)) (de_op op_shl (Ra := Is (aI 1)) (Rb := Below k) de_int (de_call (E := E0) (R := Below k) (ok_lawDraw T) room gd rfl T.lawDraw.g T.lawDraw.F.kp (b_lawDraw T) pass0 (da_cons (de_var 0 rfl) (da_cons (de_var 1 rfl) da_nil)) fun as h =>
      ⟨D, C, k, rfl, h, by omega, Int.lt_of_le_of_lt (b := 64) (by omega) (by decide), rfl⟩) fun y z e1 ⟨r, e2, r0, r1⟩ => ?_) fun a ha => ⟨rfl, ha⟩)
    subst e1 e2
    obtain ⟨j, rfl⟩ := Int.eq_ofNat_of_zero_le r0
    refine ar_int ⟨r0, by omega, by decide⟩ ⟨_, rfl, ?_, ?_⟩
    · rw [Int.one_mul]
      exact Int.le_of_lt (two_pow_pos _)
    · rw [Int.one_mul]
      show (2 : Int) ^ j < 2 ^ k
      have := Nat.pow_lt_pow_right (a := 2) (by decide) (show j < k by omega)
      have e1 : ((2 ^ j : Nat) : Int) = 2 ^ j := by norm_cast
      have e2 : ((2 ^ k : Nat) : Int) = 2 ^ k := by norm_cast
      omega
  refine ds_cons (ds_set 3 de_int (fun a ha => ?_) nd)
  subst ha
  refine ds_cons (ds_for (fun n item i S => S.rs = deckRs D C ∧ S.M = M ∧ ∃ f : Int, ∃ y2 y4, S.ρ = [some (.at D), some (aI k), y2, some (aI f), y4]) (RI := fun n item => item = AtR 0) (di_range1 rfl T.n_range (da_cons de_int da_nil) fun as h => ⟨5, h, by decide, by decide, rfl⟩)
    (dg_name 4 nd) (fun n item _ => ⟨rfl, rfl, 0, _, _, rfl⟩) (fun n item i S a hi hlt ⟨e1, e2, f, y2, y4, e3⟩ ia => ?_) (fun n item S hi ⟨e1, e2, f, y2, y4, e3⟩ => ?_) PassesOwn.never rfl)
  · subst hi
    subst ia
    obtain ⟨rs', M', ρ'⟩ := S
    cases e1
    cases e2
    cases e3
    refine ⟨_, rfl, ds_one (ds_set 3 (R := fun a => ∃ f : Int, a = aI f) (de_op op_add (de_mul (de_var 3 rfl) de_int (.inr ⟨by decide, by decide⟩)) (de_call (E := E0) (R := Below 65536) (ok_lawDraw T) room gd rfl T.lawDraw.g T.lawDraw.F.kp (b_lawDraw T) pass0 (da_cons (de_var 0 rfl) (da_cons de_int da_nil)) fun as h =>
      ⟨D, C, 65536, rfl, h, by decide, by decide, rfl⟩) fun y z e1 ⟨r, e2, _⟩ => by subst e1 e2; exact ar_int0 ⟨_, rfl⟩) (fun a ha => ?_) nd)⟩
    obtain ⟨g, rfl⟩ := ha
    exact ⟨rfl, rfl, g, _, _, rfl⟩
  · obtain ⟨rs', M', ρ'⟩ := S
    cases e1
    cases e2
    cases e3
    exact ds_one (ds_ret (de_mod (de_var 3 rfl) (de_shl de_int (de_var 1 rfl) sh) pw) fun a ha => ⟨rfl, _, ha, Int.emod_nonneg _ (Int.ne_of_gt pw), by rw [← ew]; exact Int.emod_lt_of_pos _ pw⟩)
theorem b_lawState (T : Txt K mg) : Binds K T.lawState.fd ["deck", "n", "w"] [] := T.lawState.F.binds fun _ _ _ _ _ _ us hl => match us, hl with | [_, _, _], _ => rfl
def S_lawState (rs : Rs) (M : Mem) (as : List Ab) (R : Ab → Prop) : Prop := ∃ (D C : Addr) (n k : Nat), rs = deckRs D C ∧ as = [.at D, aI n, aI k] ∧ n ≤ 100 ∧ 1 ≤ k ∧ k ≤ 64 ∧ R = IsState n k
theorem ok_lawState (T : Txt K mg) : FnG P w K mg base CX0 3 T.lawState.f T.lawState.fd ["deck", "n", "w"] (Spec K S_lawState) := by
  refine fn_go T.lawState.F sc_lawState (fun rs M as R ⟨_, _, _, _, _, h, _⟩ => by rw [h]; rfl) fun cdv A outer s H0 E room gd rs M as R t ro => ?_
  obtain ⟨D, C, n, k, rfl, rfl, hn, h1, h2, rfl⟩ := t
  have nd := sc_lawState.nd
  refine ds_one (ds_ret (R := IsState n k) (de_tupleOfR T.n_tuple (de_lcP (N := N_lawState) (sc := defScope s_lawState) 3 (n0 := n) (item0 := AtR 0) (W := fun d => ∃ i : Int, d = .int i ∧ (0 ≤ i ∧ i < 2 ^ k)) (di_range1 rfl T.n_range (da_cons (de_var 1 rfl) da_nil) fun as h => ⟨n, h, by omega, by omega, rfl, rfl⟩) nd (by decide +kernel) (by omega)
    (fun i a hi ia => fun s H C' cl fp => de_imp (de_call (E := E0) (R := Below (2 ^ k)) (ok_lawWord T) room gd rfl T.lawWord.g T.lawWord.F.kp (b_lawWord T) pass0 (da_cons (de_var 0 rfl) (da_cons (de_var 2 rfl) da_nil)) fun as h => ⟨D, C, k, rfl, h, h1, h2, rfl⟩) fun a ⟨r, e, hr⟩ => ⟨.int r, e, r, rfl, hr⟩) (fun s H C' cl fp => dg_name 3 nd))
    fun x ⟨ds, hx, hl, hd⟩ => ?_) fun a ha => ⟨rfl, ha⟩)
  obtain ⟨ws, rfl, hw⟩ := ints_of hd
  exact ⟨_, hx, ws, rfl, by rw [List.length_map] at hl; exact hl, hw⟩
/-! ### the law's own readers, more -/
theorem b_lawMixed (T : Txt K mg) : Binds K T.lawMixed.fd ["deck", "row"] [] := T.lawMixed.F.binds fun _ _ _ _ _ _ us hl => match us, hl with | [_, _], _ => rfl
def S_lawMixed (rs : Rs) (M : Mem) (as : List Ab) (R : Ab → Prop) : Prop := ∃ (D C : Addr) (ps : List Nat), rs = deckRs D C ∧ as = [.at D, aL ((nI ps).map .int)] ∧ ps.length ≤ 100 ∧ R = fun a => ∃ qs : List Nat, a = aL ((nI qs).map .int) ∧ qs.Perm ps
theorem ok_lawMixed (T : Txt K mg) : FnG P w K mg base CX0 2 T.lawMixed.f T.lawMixed.fd ["deck", "row"] (Spec K S_lawMixed) := by
  refine fn_go T.lawMixed.F sc_lawMixed (fun rs M as R ⟨_, _, _, _, h, _⟩ => by rw [h]; rfl) fun cdv A outer s H0 E room gd rs M as R t ro => ?_
  obtain ⟨D, C, ps, rfl, rfl, hp, rfl⟩ := t
  have nd := sc_lawMixed.nd
  refine ds_cons (ds_par (i := 2) (j := 3) rfl nd (dax_cons (dx_new (T := fun as => as = ((nI ps).map .int).map .d) (dn_listOf T.n_list (de_var 1 rfl) (seqs_l _)) fun l as hl => dax_cons (dx_new (T := fun as => as = []) (dn_lst da_nil fun as h => by rw [h]; decide) fun f bs hf => dax_nil ⟨_, _, rfl, ?_⟩))))
  subst hl hf
  show DSs _ _ ⟨deckRs D C, ⟨f, true, .lst []⟩ :: ⟨l, true, .lst (((nI ps).map .int).map .d)⟩ :: M, [some (.at D), some (aL ((nI ps).map .int)), some (.at l), some (.at f)]⟩ _ _
  refine ds_cons (ds_while (fun m S => ∃ ls fs : List Nat, ls.length = m ∧ (fs ++ ls).Perm ps ∧ S = ⟨deckRs D C, ⟨f, true, .lst (((nI fs).map .int).map .d)⟩ :: ⟨l, true, .lst (((nI ls).map .int).map .d)⟩ :: M, [some (.at D), some (aL ((nI ps).map .int)), some (.at l), some (.at f)]⟩) ps.length ⟨ps, [], rfl, List.Perm.refl _, rfl⟩ (fun m S ⟨ls, fs, hm, hpm, e⟩ => ?_) PassesOwn.never)
  subst e
  have hlen := hpm.length_eq
  rw [List.length_append] at hlen
  refine ⟨_, dt_neD room.units (de_var 2 rfl) (de_lst (ds := []) da_nil) (view_at (List.mem_cons_of_mem _ List.mem_cons_self)) (view_d _) (shaped_ints _) rfl, fun h => ?_, fun h => ?_⟩
  · rw [eqv_nil] at h
    have ne : 0 < ls.length := by
      cases ls with
      | nil => cases h
      | cons _ _ => exact Nat.succ_pos _
    refine ds_one (ds_exprX (R := fun S' a => ∃ r p : Nat, ls[r]? = some p ∧ S' = ⟨deckRs D C, ⟨f, true, .lst (((nI fs).map .int).map .d ++ [aI (p : Int)])⟩ :: ⟨l, true, .lst (((nI (ls.eraseIdx r)).map .int).map .d)⟩ :: M, [some (.at D), some (aL ((nI ps).map .int)), some (.at l), some (.at f)]⟩) (dx_list (k := 0) PySem.F.slot_list_append PySem.F.type_list_append mt_append (de_var 3 rfl) rfl
      (dax_cons (dx_list (k := 1) (xs := ((nI ls).map .int).map .d) PySem.F.slot_list_pop PySem.F.type_list_pop mt_popAt (de_var 2 rfl) rfl
        (dax_cons (dx_of (de_call (E := E0) (R := Below (ls.length : Int)) (ok_lawDraw T) room gd rfl T.lawDraw.g T.lawDraw.F.kp (b_lawDraw T) pass0 (da_cons (de_var 0 rfl) (da_cons (de_is (de_len T.n_len (de_var 2 rfl) (seqs_at (List.mem_cons_of_mem _ List.mem_cons_self))) (by rw [nI_len])) da_nil)) fun as h => ⟨D, C, ls.length, rfl, h, by omega, Int.lt_of_le_of_lt (b := 100) (by omega) (by decide), rfl⟩) fun a ⟨r, ea, r0, r1⟩ => dax_nil ?_)))
        )) fun S' a ⟨r, p, hr, e⟩ => ?_)
    · subst ea
      have hr : r.toNat < ls.length := by omega
      obtain ⟨p, hp'⟩ : ∃ p, ls[r.toNat]? = some p := ⟨_, List.getElem?_eq_getElem hr⟩
      refine lm_popAt (k := 1) (j := r.toNat) (a := aI (p : Int)) rfl (Int.le_trans (by decide) r0) (Int.lt_of_lt_of_le r1 (Int.le_trans (b := 100) (by omega) (by decide))) ?_ (nI_get hp') ?_
      · have := (ixN_seq (n := (((nI ls).map PyData.int).map Ab.d).length) (i := r) (j := r.toNat) (by
          have e := ixN_nat (n := (((nI ls).map PyData.int).map Ab.d).length) (j := r.toNat) (by rw [nI_len]; exact hr)
          rw [Int.toNat_of_nonneg r0] at e
          exact e)).1
        exact this
      · rw [nI_erase]
        exact dax_nil (lm_append (k := 0) rfl (by rw [nI_len]; omega) ⟨r.toNat, p, hp', rfl⟩)
    · subst e
      refine ⟨m - 1, by omega, ls.eraseIdx r, fs ++ [p], ?_, perm_move hr hpm, by rw [nI_snoc]⟩
      have := (perm_erase hr).length_eq
      rw [List.length_cons] at this
      omega
  · rw [eqv_nil] at h
    have e : ls = [] := by
      cases ls with
      | nil => rfl
      | cons _ _ => cases h
    subst e
    rw [List.append_nil] at hpm
    exact ds_one (ds_retOwn (i := 3) (k := 0) (ds := (nI fs).map .int) rfl rfl (fun b h => h) ⟨rfl, fs, rfl, hpm⟩)
theorem b_lawDeed (T : Txt K mg) : Binds K T.lawDeed.fd ["deck", "n", "words"] [] := T.lawDeed.F.binds fun _ _ _ _ _ _ us hl => match us, hl with | [_, _, _], _ => rfl
def IsDeed (n : Nat) (ks : List Str) : Ab → Prop := fun a => ∃ d : Dd, a = aT d.row ∧ d.Ok n ∧ d.word ∈ ks
def S_lawDeed (rs : Rs) (M : Mem) (as : List Ab) (R : Ab → Prop) : Prop := ∃ (D C : Addr) (n : Nat) (ks : List Str), rs = deckRs D C ∧ as = [.at D, aI n, aL (ks.map .str)] ∧ 3 ≤ n ∧ n ≤ 100 ∧ ks ≠ [] ∧ ks.length ≤ 100 ∧ (∀ k ∈ ks, k = "add" ∨ k = "xor" ∨ k = "and" ∨ k = "one") ∧ R = IsDeed n ks
theorem ok_lawDeed (T : Txt K mg) : FnG P w K mg base CX0 3 T.lawDeed.f T.lawDeed.fd ["deck", "n", "words"] (Spec K S_lawDeed) := by
  refine fn_go T.lawDeed.F sc_lawDeed (fun rs M as R ⟨_, _, _, _, _, h, _⟩ => by rw [h]; rfl) fun cdv A outer s H0 E room gd rs M as R t ro => ?_
  obtain ⟨D, C, n, ks, rfl, rfl, n1, n2, k1, k2, k3, rfl⟩ := t
  have nd := sc_lawDeed.nd
  refine ds_cons (ds_par (i := 3) (j := 4) rfl nd (dax_cons (dx_of (de_call (E := E0) (R := fun a => ∃ k, a = aS k ∧ k ∈ ks) (ok_lawPick T) room gd rfl T.lawPick.g T.lawPick.F.kp (b_lawPick T) pass0 (da_cons (de_var 0 rfl) (da_cons (de_var 2 rfl) da_nil)) fun as h => ⟨D, C, ks.map .str, rfl, h, fun z => k1 (List.map_eq_nil_iff.mp z), by rw [List.length_map]; omega, fun d hd => by
      obtain ⟨k, hk, rfl⟩ := List.mem_map.mp hd
      exact ⟨k, rfl, hk⟩⟩) fun a ha =>
    dax_cons (dx_of (de_call (E := E0) (R := fun a => ∃ qs : List Nat, a = aL ((nI qs).map .int) ∧ qs.Perm (List.range n)) (ok_lawMixed T) room gd rfl T.lawMixed.g T.lawMixed.F.kp (b_lawMixed T) pass0 (da_cons (de_var 0 rfl) (da_cons (de_of_dn (R := Is (aL ((nI (List.range n)).map .int))) (dn_listRange (i := (n : Int)) rfl T.n_list T.n_range (de_var 1 rfl) (by omega) (by omega)) fun as h => ⟨(nI (List.range n)).map .int, by
      rw [h, Int.toNat_natCast]
      unfold nI
      rw [List.map_map, List.map_map]
      rfl, rfl⟩) da_nil)) fun as h => ⟨D, C, List.range n, rfl, h, by rw [List.length_range]; omega, rfl⟩) fun b hb => dax_nil ⟨_, _, rfl, ?_⟩))))
  obtain ⟨k, rfl, hk⟩ := ha
  obtain ⟨qs, rfl, hq⟩ := hb
  have hlen := hq.length_eq
  rw [List.length_range] at hlen
  have hnd : qs.Nodup := hq.nodup_iff.mpr List.nodup_range
  have hin : ∀ q ∈ qs, q < n := fun q h => List.mem_range.mp (hq.mem_iff.mp h)
  match qs, hlen, hnd, hin with
  | [], h, _, _ => exact absurd h (by show ¬ 0 = n; omega)
  | [_], h, _, _ => exact absurd h (by show ¬ 1 = n; omega)
  | [_, _], h, _, _ => exact absurd h (by show ¬ 2 = n; omega)
  | p :: q :: r :: rest, _, hnd, hin =>
    have hp := hin p List.mem_cons_self
    have hq := hin q (List.mem_cons_of_mem _ List.mem_cons_self)
    have hr := hin r (List.mem_cons_of_mem _ (List.mem_cons_of_mem _ List.mem_cons_self))
    rw [List.nodup_cons] at hnd
    have pq : p ≠ q := fun z => hnd.1 (z ▸ List.mem_cons_self)
    have pr : p ≠ r := fun z => hnd.1 (z ▸ List.mem_cons_of_mem _ List.mem_cons_self)
    show DSs _ _ ⟨deckRs D C, M, [some (.at D), some (aI n), some (aL (ks.map .str)), some (aS k), some (aL ((nI (p :: q :: r :: rest)).map .int))]⟩ _ _
    have no : ∀ {s t : Str} {c : Bool} {Q : Prop}, (s == t) = false → c = decide (s = t) → c = true → Q := fun n h e => by rw [strne h n] at e; cases e
    have yes : ∀ {s : Str} {Q : Prop}, false = decide (s = s) → Q := fun h => by rw [decide_eq_true rfl] at h; cases h
    have g0 : atI (((nI (p :: q :: r :: rest)).map PyData.int).map Ab.d) 0 = some (aI p) := atI_nat (j := 0) rfl
    have g1 : atI (((nI (p :: q :: r :: rest)).map PyData.int).map Ab.d) 1 = some (aI q) := atI_nat (j := 1) rfl
    rcases k3 k hk with rfl | rfl | rfl | rfl
    · refine ds_cons (ds_if (dt_eqS (de_var 3 rfl) de_str) (fun h => no rfl h rfl) fun _ => ds_nil ?_)
      refine ds_cons (ds_if (dt_eqS (de_var 3 rfl) de_str) (fun h => no rfl h rfl) fun _ => ds_nil ?_)
      exact ds_one (ds_ret (de_tup (ds := Dd.row (.add p q)) (da_cons (de_var 3 rfl) (da_cons (de_ix (de_var 4 rfl) de_int (seqs_l _) g0) (da_cons (de_ix (de_var 4 rfl) de_int (seqs_l _) g1) da_nil)))) fun a ha => ⟨rfl, .add p q, ha, ⟨hp, hq, pq⟩, hk⟩)
    · refine ds_cons (ds_if (dt_eqS (de_var 3 rfl) de_str) (fun h => no rfl h rfl) fun _ => ds_nil ?_)
      refine ds_cons (ds_if (dt_eqS (de_var 3 rfl) de_str) (fun h => no rfl h rfl) fun _ => ds_nil ?_)
      exact ds_one (ds_ret (de_tup (ds := Dd.row (.xor p q)) (da_cons (de_var 3 rfl) (da_cons (de_ix (de_var 4 rfl) de_int (seqs_l _) g0) (da_cons (de_ix (de_var 4 rfl) de_int (seqs_l _) g1) da_nil)))) fun a ha => ⟨rfl, .xor p q, ha, ⟨hp, hq, pq⟩, hk⟩)
    · refine ds_cons (ds_if (dt_eqS (de_var 3 rfl) de_str) (fun h => no rfl h rfl) fun _ => ds_nil ?_)
      have cut : cutA (((nI (p :: q :: r :: rest)).map PyData.int).map Ab.d) (some 1) (some 3) = ([(q : Int), (r : Int)].map PyData.int).map Ab.d := by
        have e := cut_mid (xs := ((nI (p :: q :: r :: rest)).map PyData.int).map Ab.d) (p := 1) (q := 3) (by rw [nI_len]; show 3 ≤ rest.length + 1 + 1 + 1; omega) (by decide)
        rw [show (1 : Int) = ((1 : Nat) : Int) from rfl, show (3 : Int) = ((3 : Nat) : Int) from rfl, e]
        rfl
      have pair : ∀ {X : Cx} {e : Expr} {p1 p2 p3 p4 : Pos} {k1 k3 : Nat}, DE X (deckRs D C) M [some (.at D), some (aI n), some (aL (ks.map .str)), some (aS "and"), some (aL ((nI (p :: q :: r :: rest)).map .int))] e (Is (aL ((nI (p :: q :: r :: rest)).map .int))) → DE X (deckRs D C) M [some (.at D), some (aI n), some (aL (ks.map .str)), some (aS "and"), some (aL ((nI (p :: q :: r :: rest)).map .int))] (.Subscript e (.Slice (some (.Constant (.int 1) k1 p1)) (some (.Constant (.int 3) k3 p2)) none p3) p4) (Is (aL ([(q : Int), (r : Int)].map .int))) := fun h =>
        de_of_dn (dn_slL h (seqM_l _).l (do_some de_int) (do_some de_int)) fun as h => ⟨_, by rw [h, cut], rfl⟩
      refine ds_cons (ds_if (dt_eqS (de_var 3 rfl) de_str) (fun _ => ds_one (ds_ret (de_tup (ds := Dd.row (.and p (min q r) (max q r))) (da_cons de_str (da_cons (de_ix (de_var 4 rfl) de_int (seqs_l _) g0) (da_cons (de_minL (m := ((min q r : Nat) : Int)) rfl T.n_min (pair (de_var 4 rfl)) ?_ ?_) (da_cons (de_maxL (m := ((max q r : Nat) : Int)) rfl T.n_max (pair (de_var 4 rfl)) ?_ ?_) da_nil))))) fun a ha => ⟨rfl, .and p (min q r) (max q r), ha, ⟨hp, by omega, by omega, by omega, by omega⟩, hk⟩)) fun h => yes h)
      · simp only [List.mem_cons, List.not_mem_nil, or_false]; omega
      · simp only [List.mem_cons, List.not_mem_nil, or_false]; rintro y (rfl | rfl) <;> omega
      · simp only [List.mem_cons, List.not_mem_nil, or_false]; omega
      · simp only [List.mem_cons, List.not_mem_nil, or_false]; rintro y (rfl | rfl) <;> omega
    · exact ds_cons (ds_if (dt_eqS (de_var 3 rfl) de_str) (fun _ => ds_one (ds_ret (de_tup (ds := Dd.row (.one p)) (da_cons de_str (da_cons (de_ix (de_var 4 rfl) de_int (seqs_l _) g0) da_nil))) fun a ha => ⟨rfl, .one p, ha, hp, hk⟩)) fun h => yes h)
theorem b_lawSum (T : Txt K mg) : Binds K T.lawSum.fd ["w", "one", "other", "carried"] [] := T.lawSum.F.binds fun _ _ _ _ _ _ us hl => match us, hl with | [_, _, _, _], _ => rfl
theorem b_lawTurned (T : Txt K mg) : Binds K T.lawTurned.fd ["w", "one", "other"] [] := T.lawTurned.F.binds fun _ _ _ _ _ _ us hl => match us, hl with | [_, _, _], _ => rfl
theorem b_lawShared (T : Txt K mg) : Binds K T.lawShared.fd ["w", "one", "other"] [] := T.lawShared.F.binds fun _ _ _ _ _ _ us hl => match us, hl with | [_, _, _], _ => rfl
def S_lawSum (rs : Rs) (M : Mem) (as : List Ab) (R : Ab → Prop) : Prop := ∃ (v : Nat) (x y c : Int), as = [aI v, aI x, aI y, aI c] ∧ v ≤ 64 ∧ (0 ≤ x ∧ x < 2 ^ v) ∧ (0 ≤ y ∧ y < 2 ^ v) ∧ (0 ≤ c ∧ c < 2) ∧ R = Is (aI ((x + y + c) % 2 ^ v))
theorem ok_lawSum (T : Txt K mg) : FnG P w K mg base CX0 1 T.lawSum.f T.lawSum.fd ["w", "one", "other", "carried"] (Spec K S_lawSum) := by
  refine fn_go T.lawSum.F sc_lawSum (fun rs M as R ⟨_, _, _, _, h, _⟩ => by rw [h]; rfl) fun cdv A outer s H0 E room gd rs M as R t ro => ?_
  obtain ⟨v, x, y, c, rfl, hv, hx, hy, hc, rfl⟩ := t
  have nd := sc_lawSum.nd
  refine ds_cons (ds_set 4 de_int (fun a ha => ?_) nd)
  subst ha
  refine ds_cons (ds_for (fun m item i S => ∃ (f r : Int) (y5 y6 y7 y8 : Option Ab), S = ⟨rs, M, [some (aI v), some (aI x), some (aI y), some (aI r), some (aI f), y5, y6, y7, y8]⟩ ∧ f + r * 2 ^ i = x % 2 ^ i + y % 2 ^ i + c ∧ (0 ≤ f ∧ f < 2 ^ i) ∧ 0 ≤ r ∧ r < 2) (RI := fun m item => m = v ∧ item = AtR 0)
    (di_range1 rfl T.n_range (da_cons (de_var 0 rfl) da_nil) fun as h => ⟨v, h, by omega, by omega, rfl, rfl⟩) (dg_name 5 nd) (fun m item _ => ⟨0, c, none, none, none, none, rfl, by simp, ⟨by decide, by decide⟩, hc⟩)
    (fun m item i S a ⟨hm, hi⟩ hlt ⟨f, r, y5, y6, y7, y8, e, hf, hf2, hr⟩ ia => ?_) (fun m item S ⟨hm, hi⟩ ⟨f, r, y5, y6, y7, y8, e, hf, hf2, hr⟩ => ?_) PassesOwn.never rfl)
  · subst hm hi
    subst ia
    subst e
    rw [Int.zero_add]
    refine ⟨_, rfl, ?_⟩
    have b1 := bitI_range x i
    have b2 := bitI_range y i
    refine ds_cons (ds_par (i := 6) (j := 7) rfl nd (dax_cons (dx_of (de_bitAt T.n_int (de_var 1 rfl) (de_var 5 rfl) (by omega)) fun a ha => dax_cons (dx_of (de_bitAt T.n_int (de_var 2 rfl) (de_var 5 rfl) (by omega)) fun b hb => dax_nil ⟨_, _, rfl, ?_⟩))))
    subst ha hb
    refine ds_cons (ds_set 8 (de_add (de_add (de_var 6 rfl) (de_var 7 rfl)) (de_var 3 rfl)) (fun a ha => ?_) nd)
    subst ha
    have em : ∃ q : Int, q = bitI x i + bitI y i + r := ⟨_, rfl⟩
    obtain ⟨q, eq⟩ := em
    show DSs _ _ ⟨rs, M, [some (aI m), some (aI x), some (aI y), some (aI r), some (aI f), some (aI i), some (aI (bitI x i)), some (aI (bitI y i)), some (aI (bitI x i + bitI y i + r))]⟩ _ _
    rw [← eq]
    have st := sum_step hf
    rw [← eq] at st
    refine ds_cons (ds_set 4 (de_add (de_var 4 rfl) (de_mul (de_mod (de_intOf T.n_int (de_var 8 rfl)) de_int (by decide)) (de_shl de_int (de_var 5 rfl) (cpw (by omega))) (.inl ⟨by omega, by omega⟩))) (fun a ha => ?_) nd)
    subst ha
    refine ds_one (ds_set 3 (de_div (de_var 8 rfl) de_int ⟨by decide, by decide⟩) (fun a ha => ?_) nd)
    subst ha
    refine ⟨f + q % 2 * (1 * 2 ^ ((i : Int).toNat)), q / 2, _, _, _, _, rfl, ?_, ?_, by omega, by omega⟩
    · rw [one_shl]
      exact st
    · rw [one_shl, Int.pow_succ]
      have p := two_pow_pos i
      have : q % 2 = 0 ∨ q % 2 = 1 := by omega
      rcases this with z | z <;> rw [z] <;> omega
  · subst hm hi
    subst e
    exact ds_one (ds_ret (de_var 4 rfl) fun a ha => ⟨rfl, by rw [← sum_end hx hy hf hf2.1 hf2.2]; exact ha⟩)
def S_lawTurned (rs : Rs) (M : Mem) (as : List Ab) (R : Ab → Prop) : Prop := ∃ (v : Nat) (x y : Int), as = [aI v, aI x, aI y] ∧ v ≤ 64 ∧ (0 ≤ x ∧ x < 2 ^ v) ∧ (0 ≤ y ∧ y < 2 ^ v) ∧ R = Is (aI (bx x y))
theorem ok_lawTurned (T : Txt K mg) : FnG P w K mg base CX0 1 T.lawTurned.f T.lawTurned.fd ["w", "one", "other"] (Spec K S_lawTurned) := by
  refine fn_go T.lawTurned.F sc_lawTurned (fun rs M as R ⟨_, _, _, h, _⟩ => by rw [h]; rfl) fun cdv A outer s H0 E room gd rs M as R t ro => ?_
  obtain ⟨v, x, y, rfl, hv, hx, hy, rfl⟩ := t
  have nd := sc_lawTurned.nd
  refine ds_cons (ds_set 3 de_int (fun a ha => ?_) nd)
  subst ha
  refine ds_cons (ds_for (fun m item i S => ∃ (f : Int) (y4 y5 y6 : Option Ab), S = ⟨rs, M, [some (aI v), some (aI x), some (aI y), some (aI f), y4, y5, y6]⟩ ∧ f = bx x y % 2 ^ i) (RI := fun m item => m = v ∧ item = AtR 0)
    (di_range1 rfl T.n_range (da_cons (de_var 0 rfl) da_nil) fun as h => ⟨v, h, by omega, by omega, rfl, rfl⟩) (dg_name 4 nd) (fun m item _ => ⟨0, none, none, none, rfl, by rw [Int.pow_zero, Int.emod_one]⟩)
    (fun m item i S a ⟨hm, hi⟩ hlt ⟨f, y4, y5, y6, e, hf⟩ ia => ?_) (fun m item S ⟨hm, hi⟩ ⟨f, y4, y5, y6, e, hf⟩ => ?_) PassesOwn.never rfl)
  · subst hm hi
    subst ia
    subst e
    rw [Int.zero_add]
    refine ⟨_, rfl, ?_⟩
    refine ds_cons (ds_par (i := 5) (j := 6) rfl nd (dax_cons (dx_of (de_bitAt T.n_int (de_var 1 rfl) (de_var 4 rfl) (by omega)) fun a ha => dax_cons (dx_of (de_bitAt T.n_int (de_var 2 rfl) (de_var 4 rfl) (by omega)) fun b hb => dax_nil ⟨_, _, rfl, ?_⟩))))
    subst ha hb
    show DSs _ _ ⟨rs, M, [some (aI m), some (aI x), some (aI y), some (aI f), some (aI i), some (aI (bitI x i)), some (aI (bitI y i))]⟩ _ _
    refine ds_one (ds_set 3 (de_add (de_var 3 rfl) (de_mul (i := bitI (bx x y) i) (de_is (de_intOfB T.n_int (de_neI (de_var 5 rfl) (de_var 6 rfl))) ?_) (de_shl de_int (de_var 4 rfl) (cpw (by omega))) (.inl ?_))) (fun a ha => ?_) nd)
    · rw [bitI_bx hx.1 hy.1]
      by_cases z : bitI x i = bitI y i
      · rw [if_pos z, decide_eq_true z]
        rfl
      · rw [if_neg z, decide_eq_false z]
        rfl
    · have b := bitI_range (bx x y) i
      exact ⟨by omega, by omega⟩
    · subst ha
      refine ⟨_, _, _, _, rfl, ?_⟩
      rw [one_shl, hf, bitI_mod]
  · subst hm hi
    subst e
    have r := bx_range hx hy
    rw [Int.emod_eq_of_lt r.1 r.2] at hf
    exact ds_one (ds_ret (de_var 3 rfl) fun a ha => ⟨rfl, by rw [← hf]; exact ha⟩)
def S_lawShared (rs : Rs) (M : Mem) (as : List Ab) (R : Ab → Prop) : Prop := ∃ (v : Nat) (x y : Int), as = [aI v, aI x, aI y] ∧ v ≤ 64 ∧ (0 ≤ x ∧ x < 2 ^ v) ∧ (0 ≤ y ∧ y < 2 ^ v) ∧ R = Is (aI (ba x y))
theorem ok_lawShared (T : Txt K mg) : FnG P w K mg base CX0 1 T.lawShared.f T.lawShared.fd ["w", "one", "other"] (Spec K S_lawShared) := by
  refine fn_go T.lawShared.F sc_lawShared (fun rs M as R ⟨_, _, _, h, _⟩ => by rw [h]; rfl) fun cdv A outer s H0 E room gd rs M as R t ro => ?_
  obtain ⟨v, x, y, rfl, hv, hx, hy, rfl⟩ := t
  have nd := sc_lawShared.nd
  refine ds_cons (ds_set 3 de_int (fun a ha => ?_) nd)
  subst ha
  refine ds_cons (ds_for (fun m item i S => ∃ (f : Int) (y4 y5 y6 : Option Ab), S = ⟨rs, M, [some (aI v), some (aI x), some (aI y), some (aI f), y4, y5, y6]⟩ ∧ f = ba x y % 2 ^ i) (RI := fun m item => m = v ∧ item = AtR 0)
    (di_range1 rfl T.n_range (da_cons (de_var 0 rfl) da_nil) fun as h => ⟨v, h, by omega, by omega, rfl, rfl⟩) (dg_name 4 nd) (fun m item _ => ⟨0, none, none, none, rfl, by rw [Int.pow_zero, Int.emod_one]⟩)
    (fun m item i S a ⟨hm, hi⟩ hlt ⟨f, y4, y5, y6, e, hf⟩ ia => ?_) (fun m item S ⟨hm, hi⟩ ⟨f, y4, y5, y6, e, hf⟩ => ?_) PassesOwn.never rfl)
  · subst hm hi
    subst ia
    subst e
    rw [Int.zero_add]
    refine ⟨_, rfl, ?_⟩
    refine ds_cons (ds_par (i := 5) (j := 6) rfl nd (dax_cons (dx_of (de_bitAt T.n_int (de_var 1 rfl) (de_var 4 rfl) (by omega)) fun a ha => dax_cons (dx_of (de_bitAt T.n_int (de_var 2 rfl) (de_var 4 rfl) (by omega)) fun b hb => dax_nil ⟨_, _, rfl, ?_⟩))))
    subst ha hb
    show DSs _ _ ⟨rs, M, [some (aI m), some (aI x), some (aI y), some (aI f), some (aI i), some (aI (bitI x i)), some (aI (bitI y i))]⟩ _ _
    have b1 := bitI_range x i
    have b := bitI_range (ba x y) i
    refine ds_one (ds_set 3 (de_add (de_var 3 rfl) (de_mul (i := bitI (ba x y) i) (de_is (de_mul (de_var 5 rfl) (de_var 6 rfl) (.inl ⟨by omega, by omega⟩)) (by rw [bitI_ba hx.1 hy.1])) (de_shl de_int (de_var 4 rfl) (cpw (by omega))) (.inl ⟨by omega, by omega⟩))) (fun a ha => ?_) nd)
    subst ha
    refine ⟨_, _, _, _, rfl, ?_⟩
    rw [one_shl, hf, bitI_mod]
  · subst hm hi
    subst e
    have r := ba_range hx hy
    rw [Int.emod_eq_of_lt r.1 r.2] at hf
    exact ds_one (ds_ret (de_var 3 rfl) fun a ha => ⟨rfl, by rw [← hf]; exact ha⟩)
theorem b_lawDue (T : Txt K mg) : Binds K T.lawDue.fd ["w", "state", "deed", "is_back"] [] := T.lawDue.F.binds fun _ _ _ _ _ _ us hl => match us, hl with | [_, _, _, _], _ => rfl
def sgn (b : Bool) : Int := if b then -1 else 1
def S_lawDue (rs : Rs) (M : Mem) (as : List Ab) (R : Ab → Prop) : Prop := ∃ (v n : Nat) (ws : List Int) (d : Dd) (b : Bool), as = [aI v, aT (ws.map .int), aT d.row, aB b] ∧ ws.length = n ∧ n ≤ 100 ∧ 1 ≤ v ∧ v ≤ 64 ∧ d.Ok n ∧ InW v ws ∧ R = Is (aT ((d.act v (sgn b) ws).map .int))
theorem de_withWord {X : Cx} {rs : Rs} {M : Mem} {ρ : List (Option Ab)} {ws : List Int} {p : Nat} {x : Int} {e e2 f f2 g : Expr} {q1 q2 q3 q4 q5 q6 q7 q8 q9 : Pos} {k k2 : Nat} (hp : p < ws.length) (hl : ws.length ≤ 100) (he : DE X rs M ρ e (Is (aT (ws.map .int)))) (he2 : DE X rs M ρ e2 (Is (aT (ws.map .int)))) (hf : DE X rs M ρ f (Is (aI p))) (hf2 : DE X rs M ρ f2 (Is (aI p))) (hg : DE X rs M ρ g (Is (aI x))) :
    starEach [g] X.env = (false, eval g X.env) :: starEach [] X.env → DE X rs M ρ (.BinOp (.BinOp (.Subscript e (.Slice none (some f) none q1) q2) .Add (.Tuple [g] k q3) q4) .Add (.Subscript e2 (.Slice (some (.BinOp f2 .Add (.Constant (.int 1) k2 q5) q6)) none none q7) q8) q9) (Is (aT ((ws.set p x).map .int))) := fun hst => by
  have l1 := cutA_length (ws.map PyData.int) none (some (p : Int))
  have l2 := cutA_length (ws.map PyData.int) (some ((p : Int) + 1)) none
  rw [List.length_map] at l1 l2
  refine de_is (de_catT (de_catT (de_slT he do_none (do_some hf)) (de_tup (ds := [.int x]) (da_cons hg da_nil hst)) (by show _ + 1 ≤ _; omega)) (de_slT he2 (do_some (de_add hf2 de_int)) do_none) (by rw [List.length_append]; show _ + 1 + _ ≤ _; omega)) (congrArg aT ?_)
  rw [cut_to (by rw [List.length_map]; omega), cut_from (by rw [List.length_map]; omega)]
  rw [List.set_eq_take_append_cons_drop, if_pos hp, List.map_append, List.map_cons, List.map_take, List.map_drop, List.append_assoc]
  rfl
theorem ok_lawDue (T : Txt K mg) : FnG P w K mg base CX0 2 T.lawDue.f T.lawDue.fd ["w", "state", "deed", "is_back"] (Spec K S_lawDue) := by
  refine fn_go T.lawDue.F sc_lawDue (fun rs M as R ⟨_, _, _, _, _, h, _⟩ => by rw [h]; rfl) fun cdv A outer s' H0 E room gd rs M as R t ro => ?_
  obtain ⟨v, n, ws, d, b, rfl, hn, hn2, v1, hv, hd, hw, rfl⟩ := t
  have nd := sc_lawDue.nd
  have hpl := d.pl_lt hd
  have pv := two_pow_pos v
  have no : ∀ {s t : Str} {c : Bool} {Q : Prop}, (s == t) = false → c = decide (s = t) → c = true → Q := fun n h e => by rw [strne h n] at e; cases e
  have yes : ∀ {s : Str} {Q : Prop}, false = decide (s = s) → Q := fun h => by rw [decide_eq_true rfl] at h; cases h
  refine ds_cons (ds_par (i := 4) (j := 5) rfl nd (dax_cons (dx_of (de_ix (y := aS d.word) (de_var 2 rfl) de_int (seqs_t _) (by cases d <;> rfl)) fun a ha => dax_cons (dx_of (de_ix (y := aI d.pl) (de_var 2 rfl) de_int (seqs_t _) (by cases d <;> rfl)) fun c hc => dax_nil ⟨_, _, rfl, ?_⟩))))
  subst ha hc
  refine ds_cons (ds_set 6 (R := Is (aI (ws.getD d.pl 0))) (de_ix (de_var 1 rfl) (de_var 5 rfl) (seqs_t _) (at_word (by omega))) (fun a ha => ?_) nd)
  subst ha
  show DSs _ _ ⟨rs, M, [some (aI v), some (aT (ws.map .int)), some (aT d.row), some (aB b), some (aS d.word), some (aI d.pl), some (aI (ws.getD d.pl 0)), none]⟩ _ _
  refine ds_cut (fun S' => ∃ y7, S' = ⟨rs, M, [some (aI v), some (aT (ws.map .int)), some (aT d.row), some (aB b), some (aS d.word), some (aI d.pl), some (aI (d.new v (sgn b) ws)), y7]⟩) ?_ fun S' ⟨y7, e⟩ => ?_
  · cases d with
    | xor i j =>
      obtain ⟨h1, h2, h3⟩ := hd
      refine ds_if (dt_eqS (de_var 4 rfl) de_str) (fun _ => ds_one (ds_set 6 (R := Is (aI (Dd.new v (sgn b) ws (.xor i j)))) (de_call (E := E0) (ok_lawTurned T) room gd rfl T.lawTurned.g T.lawTurned.F.kp (b_lawTurned T) pass0 (da_cons (de_var 0 rfl) (da_cons (de_var 6 rfl) (da_cons (de_ix (de_var 1 rfl) (de_ix (y := aI j) (de_var 2 rfl) de_int (seqs_t _) rfl) (seqs_t _) (at_word (by omega))) da_nil))) fun as h => ⟨v, _, _, h, hv, hw.get i, hw.get j, rfl⟩) (fun a ha => ⟨none, by rw [ha]; rfl⟩) nd)) fun h => yes h
    | and i j k =>
      obtain ⟨h1, h2, h3, h4, h5⟩ := hd
      refine ds_if (dt_eqS (de_var 4 rfl) de_str) (fun h => no rfl h rfl) fun _ => ds_one (ds_if (dt_eqS (de_var 4 rfl) de_str) (fun _ => ds_one (ds_set 6 (R := Is (aI (Dd.new v (sgn b) ws (.and i j k)))) (de_call (E := E0) (ok_lawTurned T) room gd rfl T.lawTurned.g T.lawTurned.F.kp (b_lawTurned T) pass0 (da_cons (de_var 0 rfl) (da_cons (de_var 6 rfl) (da_cons
        (de_call (E := E0) (R := Is (aI (ba (ws.getD j 0) (ws.getD k 0)))) (ok_lawShared T) room gd rfl T.lawShared.g T.lawShared.F.kp (b_lawShared T) pass0 (da_cons (de_var 0 rfl) (da_cons (de_ix (de_var 1 rfl) (de_ix (y := aI j) (de_var 2 rfl) de_int (seqs_t _) rfl) (seqs_t _) (at_word (by omega))) (da_cons (de_ix (de_var 1 rfl) (de_ix (y := aI k) (de_var 2 rfl) de_int (seqs_t _) rfl) (seqs_t _) (at_word (by omega))) da_nil))) fun as h => ⟨v, _, _, h, hv, hw.get j, hw.get k, rfl⟩) da_nil))) fun as h => ⟨v, _, _, h, hv, hw.get i, ba_range (hw.get j) (hw.get k), rfl⟩) (fun a ha => ⟨none, by rw [ha]; rfl⟩) nd)) fun h => yes h)
    | one i =>
      refine ds_if (dt_eqS (de_var 4 rfl) de_str) (fun h => no rfl h rfl) fun _ => ds_one (ds_if (dt_eqS (de_var 4 rfl) de_str) (fun h => no rfl h rfl) fun _ => ?_)
      have p1 : (1 : Int) < 2 ^ v := by
        have := Nat.pow_lt_pow_right (a := 2) (by decide) (show 0 < v by omega)
        have e1 : ((2 ^ v : Nat) : Int) = 2 ^ v := by norm_cast
        omega
      refine ds_cons (ds_set 7 (R := Is (aI 1)) (de_ifR (dt_eqS (de_var 4 rfl) de_str) (fun _ => de_int) fun h => yes h) (fun a ha => ?_) nd)
      subst ha
      show DSs _ _ ⟨rs, M, [some (aI v), some (aT (ws.map .int)), some (aT (Dd.one i).row), some (aB b), some (aS (Dd.one i).word), some (aI i), some (aI (ws.getD i 0)), some (aI 1)]⟩ _ _
      refine ds_one (ds_set 6 (R := Is (aI (Dd.new v (sgn b) ws (.one i)))) (de_ifR (T := fun c => c = b) (dt_val (de_var 3 rfl) fun y h => ⟨b, h, rfl⟩) (fun h => ?_) fun h => ?_) (fun a ha => ⟨some (aI 1), by rw [ha]; rfl⟩) nd)
      · subst h
        refine de_is (de_call (E := E0) (R := Is (aI ((ws.getD i 0 + (2 ^ v - 1 - 1) + 1) % 2 ^ v))) (ok_lawSum T) room gd rfl T.lawSum.g T.lawSum.F.kp (b_lawSum T) pass0 (da_cons (de_var 0 rfl) (da_cons (de_var 6 rfl) (da_cons (de_sub (de_sub (de_shl de_int (de_var 0 rfl) (cpw (by omega))) de_int) (de_var 7 rfl)) (da_cons de_int da_nil)))) fun as h => ⟨v, _, _, _, by rw [h, one_shl], hv, hw.get i, ⟨by omega, by omega⟩, ⟨by decide, by decide⟩, rfl⟩) (congrArg aI ?_)
        show _ = (ws.getD i 0 + -1) % 2 ^ v
        rw [show ws.getD i 0 + (2 ^ v - 1 - 1) + 1 = ws.getD i 0 + -1 + 2 ^ v by omega, Int.add_emod_right]
      · subst h
        refine de_is (de_call (E := E0) (R := Is (aI ((ws.getD i 0 + 1 + 0) % 2 ^ v))) (ok_lawSum T) room gd rfl T.lawSum.g T.lawSum.F.kp (b_lawSum T) pass0 (da_cons (de_var 0 rfl) (da_cons (de_var 6 rfl) (da_cons (de_var 7 rfl) (da_cons de_int da_nil)))) fun as h => ⟨v, _, _, _, h, hv, hw.get i, ⟨by decide, p1⟩, ⟨by decide, by decide⟩, rfl⟩) (congrArg aI ?_)
        rw [Int.add_zero]
        rfl
    | add i j =>
      obtain ⟨h1, h2, h3⟩ := hd
      refine ds_if (dt_eqS (de_var 4 rfl) de_str) (fun h => no rfl h rfl) fun _ => ds_one (ds_if (dt_eqS (de_var 4 rfl) de_str) (fun h => no rfl h rfl) fun _ => ?_)
      refine ds_cons (ds_set 7 (R := Is (aI (ws.getD j 0))) (de_ifR (dt_eqS (de_var 4 rfl) de_str) (fun h => no rfl h rfl) fun _ => de_ix (de_var 1 rfl) (de_ix (y := aI j) (de_var 2 rfl) de_int (seqs_t _) rfl) (seqs_t _) (at_word (by omega))) (fun a ha => ?_) nd)
      subst ha
      have hj := hw.get j
      have hi := hw.get i
      have ey : ∃ y : Int, y = ws.getD j 0 := ⟨_, rfl⟩
      obtain ⟨y, ey⟩ := ey
      show DSs _ _ ⟨rs, M, [some (aI v), some (aT (ws.map .int)), some (aT (Dd.add i j).row), some (aB b), some (aS (Dd.add i j).word), some (aI i), some (aI (ws.getD i 0)), some (aI (ws.getD j 0))]⟩ _ _
      rw [← ey] at hj ⊢
      have en : Dd.new v (sgn b) ws (.add i j) = (ws.getD i 0 + sgn b * y) % 2 ^ v := by rw [ey]; rfl
      rw [en]
      refine ds_one (ds_set 6 (R := Is (aI ((ws.getD i 0 + sgn b * y) % 2 ^ v))) (de_ifR (T := fun c => c = b) (dt_val (de_var 3 rfl) fun y h => ⟨b, h, rfl⟩) (fun h => ?_) fun h => ?_) (fun a ha => ⟨some (aI y), by rw [ha]; rfl⟩) nd)
      · subst h
        refine de_is (de_call (E := E0) (R := Is (aI ((ws.getD i 0 + (2 ^ v - 1 - y) + 1) % 2 ^ v))) (ok_lawSum T) room gd rfl T.lawSum.g T.lawSum.F.kp (b_lawSum T) pass0 (da_cons (de_var 0 rfl) (da_cons (de_var 6 rfl) (da_cons (de_sub (de_sub (de_shl de_int (de_var 0 rfl) (cpw (by omega))) de_int) (de_var 7 rfl)) (da_cons de_int da_nil)))) fun as h => ⟨v, _, _, _, by rw [h, one_shl], hv, hi, ⟨by omega, by omega⟩, ⟨by decide, by decide⟩, rfl⟩) (congrArg aI ?_)
        show _ = (ws.getD i 0 + -1 * y) % 2 ^ v
        rw [show ws.getD i 0 + (2 ^ v - 1 - y) + 1 = ws.getD i 0 + -1 * y + 2 ^ v by omega, Int.add_emod_right]
      · subst h
        refine de_is (de_call (E := E0) (R := Is (aI ((ws.getD i 0 + y + 0) % 2 ^ v))) (ok_lawSum T) room gd rfl T.lawSum.g T.lawSum.F.kp (b_lawSum T) pass0 (da_cons (de_var 0 rfl) (da_cons (de_var 6 rfl) (da_cons (de_var 7 rfl) (da_cons de_int da_nil)))) fun as h => ⟨v, _, _, _, h, hv, hi, hj, ⟨by decide, by decide⟩, rfl⟩) (congrArg aI ?_)
        show _ = (ws.getD i 0 + 1 * y) % 2 ^ v
        rw [Int.add_zero, Int.one_mul]
  · subst e
    exact ds_one (ds_ret (R := Is (aT ((d.act v (sgn b) ws).map .int))) (de_withWord (ws := ws) (p := d.pl) (x := d.new v (sgn b) ws) (by omega) (by omega) (de_var 1 rfl) (de_var 1 rfl) (de_var 5 rfl) (de_var 5 rfl) (de_var 6 rfl) rfl) fun a ha => ⟨rfl, ha⟩)
theorem b_lawIsRight (T : Txt K mg) : Binds K T.lawIsRight.fd ["deck", "n", "w"] [] := T.lawIsRight.F.binds fun _ _ _ _ _ _ us hl => match us, hl with | [_, _, _], _ => rfl
theorem b_lawDeck (T : Txt K mg) : Binds K T.lawDeck.fd ["script"] [] := T.lawDeck.F.binds fun _ _ _ _ _ _ us hl => match us, hl with | [_], _ => rfl
theorem sz_place {i n : Nat} (h : i < n) (hn : n ≤ 100) : Sz 0 101 (.int (i : Int)) := sz_int 100 (by rw [Int.natAbs_natCast]; exact Nat.lt_of_lt_of_le (m := 100) (by omega) (by decide)) (by decide) (by decide)
theorem sz_adds : Sz 0 101 (.str "add") ∧ Sz 0 101 (.str "xor") ∧ Sz 0 101 (.str "and") ∧ Sz 0 101 (.str "one") := ⟨⟨by decide, by decide, by decide +kernel⟩, ⟨by decide, by decide, by decide +kernel⟩, ⟨by decide, by decide, by decide +kernel⟩, ⟨by decide, by decide, by decide +kernel⟩⟩
theorem sz_deed {n : Nat} {d : Dd} (hd : d.Ok n) (hn : n ≤ 100) : Sz 1 20000 (.tuple d.row) := by
  obtain ⟨s1, s2, s3, s4⟩ := sz_adds
  have all : ∀ x ∈ d.row, Sz 0 101 x := by
    cases d with
    | add i j =>
      intro x hx
      simp only [Dd.row, List.mem_cons, List.not_mem_nil, or_false] at hx
      rcases hx with rfl | rfl | rfl
      · exact s1
      · exact sz_place hd.1 hn
      · exact sz_place hd.2.1 hn
    | xor i j =>
      intro x hx
      simp only [Dd.row, List.mem_cons, List.not_mem_nil, or_false] at hx
      rcases hx with rfl | rfl | rfl
      · exact s2
      · exact sz_place hd.1 hn
      · exact sz_place hd.2.1 hn
    | and i j k =>
      intro x hx
      simp only [Dd.row, List.mem_cons, List.not_mem_nil, or_false] at hx
      rcases hx with rfl | rfl | rfl | rfl
      · exact s3
      · exact sz_place hd.1 hn
      · exact sz_place hd.2.1 hn
      · exact sz_place hd.2.2.1 hn
    | one i =>
      intro x hx
      simp only [Dd.row, List.mem_cons, List.not_mem_nil, or_false] at hx
      rcases hx with rfl | rfl
      · exact s4
      · exact sz_place hd hn
  have hl : d.row.length ≤ 4 := by
    cases d with
    | add i j => show 3 ≤ 4; decide
    | xor i j => show 3 ≤ 4; decide
    | and i j k => show 4 ≤ 4; decide
    | one i => show 2 ≤ 4; decide
  exact (sz_tup all).mono (by decide) (by omega)
theorem sz_st {v : Nat} {ws : List Int} (hv : v ≤ 100) (hl : ws.length ≤ 100) (h : InW v ws) : Sz 1 20000 (.tuple (ws.map .int)) := by
  have p := pow_le_100 hv
  exact sz_words hl fun x hx => by have := h x hx; omega
theorem sz_two {a b : PyData} (ha : Sz 1 20000 a) (hb : Sz 1 20000 b) : Sz 50 10000000 (.list [a, b]) := sz_show (by show 2 ≤ 100; decide) fun d hd => by
  rcases List.mem_cons.mp hd with rfl | hd
  · exact ha
  rcases List.mem_cons.mp hd with rfl | hd
  · exact hb
  cases hd
def S_lawIsRight (rs : Rs) (M : Mem) (as : List Ab) (R : Ab → Prop) : Prop := ∃ (D C : Addr) (n v : Nat), rs = deckRs D C ∧ as = [.at D, aI n, aI v] ∧ 3 ≤ n ∧ n ≤ 8 ∧ 1 ≤ v ∧ v ≤ 64 ∧ R = Is (aB true)
theorem ok_lawIsRight (T : Txt K mg) : FnG P w K mg base CX0 4 T.lawIsRight.f T.lawIsRight.fd ["deck", "n", "w"] (Spec K S_lawIsRight) := by
  refine fn_go T.lawIsRight.F sc_lawIsRight (fun rs M as R ⟨_, _, _, _, _, h, _⟩ => by rw [h]; rfl) fun cdv A outer s H0 E room gd rs M as R t ro => ?_
  obtain ⟨D, C, n, v, rfl, rfl, n1, n2, v1, v2, rfl⟩ := t
  have nd := sc_lawIsRight.nd
  have room2 : Room 2 _ := room.mono (by decide)
  refine ds_cons (ds_par (i := 3) (j := 4) rfl nd (dax_cons (dx_of (de_call (E := E0) (R := IsState n v) (ok_lawState T) room gd rfl T.lawState.g T.lawState.F.kp (b_lawState T) pass0 (da_cons (de_var 0 rfl) (da_cons (de_var 1 rfl) (da_cons (de_var 2 rfl) da_nil))) fun as h => ⟨D, C, n, v, rfl, h, by omega, v1, v2, rfl⟩) fun a ha =>
    dax_cons (dx_of (de_call (E := E0) (R := IsDeed n ["add", "add", "xor", "and", "one"]) (ok_lawDeed T) room gd rfl T.lawDeed.g T.lawDeed.F.kp (b_lawDeed T) pass0 (da_cons (de_var 0 rfl) (da_cons (de_var 1 rfl) (da_cons (de_lst (ds := (["add", "add", "xor", "and", "one"] : List Str).map .str) (da_cons de_str (da_cons de_str (da_cons de_str (da_cons de_str (da_cons de_str da_nil)))))) da_nil))) fun as h => ⟨D, C, n, _, rfl, h, n1, by omega, by decide, by decide, by decide, rfl⟩) fun b hb => dax_nil ⟨_, _, rfl, ?_⟩))))
  obtain ⟨ws, rfl, hn, hw⟩ := ha
  obtain ⟨d, rfl, hd, hk⟩ := hb
  show DSs _ _ ⟨deckRs D C, M, [some (.at D), some (aI n), some (aI v), some (aT (ws.map .int)), some (aT d.row), none, none]⟩ _ _
  have shown : ∃ str : Str, str = (PyData.list [.tuple (ws.map .int), .tuple d.row]).shown := ⟨_, rfl⟩
  obtain ⟨str, estr⟩ := shown
  have sz2 := sz_two (sz_st (by omega) (by omega) hw) (sz_deed hd (by omega))
  refine ds_cons (ds_set 5 (R := Is (aS str)) (de_is (de_repr gd room.units T.n_repr (de_lst (ds := [.tuple (ws.map .int), .tuple d.row]) (da_cons (de_var 3 rfl) (da_cons (de_var 4 rfl) da_nil)) rfl (by show 2 ≤ 100000; decide)) (view_d _) (.inl ⟨_, rfl⟩) sz2) (by rw [estr])) (fun a ha => ?_) nd)
  subst ha
  have eF : ∃ fs : List Int, fs = d.act v 1 ws := ⟨_, rfl⟩
  have eB : ∃ bs : List Int, bs = d.act v (-1) ws := ⟨_, rfl⟩
  obtain ⟨fs, ef⟩ := eF
  obtain ⟨bs, eb⟩ := eB
  have hf : InW v fs := by rw [ef]; exact InW.act hw d
  have hb : InW v bs := by rw [eb]; exact InW.act hw d
  have lf : fs.length = n := by rw [ef, act_len, hn]
  have lb : bs.length = n := by rw [eb, act_len, hn]
  have backF : d.act v (-1) fs = ws := by rw [ef]; exact act_back hd hn hw
  have backB : d.act v 1 bs = ws := by
    have := act_back (s := -1) hd hn hw
    rw [Int.neg_neg] at this
    rw [eb]
    exact this
  have two : ∃ ds : List PyData, ds = [.tuple (fs.map .int), .tuple (bs.map .int)] := ⟨_, rfl⟩
  obtain ⟨ds2, e2⟩ := two
  have szd : Sz 50 10000000 (.list ds2) := by rw [e2]; exact sz_two (sz_st (by omega) (by omega) hf) (sz_st (by omega) (by omega) hb)
  refine ds_cons (ds_set 6 (R := Is (aL ds2)) (de_lst (da_cons (de_call (E := E0) (R := Is (aT (fs.map .int))) (ok_lawDue T) room2 gd rfl T.lawDue.g T.lawDue.F.kp (b_lawDue T) pass0 (da_cons (de_var 2 rfl) (da_cons (de_var 3 rfl) (da_cons (de_var 4 rfl) (da_cons de_bl da_nil)))) fun as h => ⟨v, n, ws, d, false, h, hn, by omega, v1, v2, hd, hw, by rw [ef]; rfl⟩)
    (da_cons (de_call (E := E0) (R := Is (aT (bs.map .int))) (ok_lawDue T) room2 gd rfl T.lawDue.g T.lawDue.F.kp (b_lawDue T) pass0 (da_cons (de_var 2 rfl) (da_cons (de_var 3 rfl) (da_cons (de_var 4 rfl) (da_cons de_bl da_nil)))) fun as h => ⟨v, n, ws, d, true, h, hn, by omega, v1, v2, hd, hw, by rw [eb]; rfl⟩) da_nil)) (by rw [e2]; rfl) (by show 2 ≤ 100000; decide)) (fun a ha => ?_) nd)
  subst ha
  show DSs _ _ ⟨deckRs D C, M, [some (.at D), some (aI n), some (aI v), some (aT (ws.map .int)), some (aT d.row), some (aS str), some (aL ds2)]⟩ _ _
  have i0 : atI (ds2.map Ab.d) 0 = some (aT (fs.map .int)) := by rw [e2]; exact atI_nat (j := 0) rfl
  have i1 : atI (ds2.map Ab.d) 1 = some (aT (bs.map .int)) := by rw [e2]; exact atI_nat (j := 1) rfl
  refine ds_cons (ds_if (T := fun c => c = false) (dt_imp (dt_neS (de_repr gd room.units T.n_repr (de_lst (ds := ds2) (da_cons (de_call (E := E0) (R := Is (aT (fs.map .int))) (ok_done T) room2 gd rfl T.done.g T.done.F.kp (b_done T) pass0 (da_cons (de_var 2 rfl) (da_cons (de_var 3 rfl) (da_cons (de_var 4 rfl) da_nil))) fun as h => ⟨v, n, ws, d, h, hn, by omega, v2, hd, hw, by rw [ef]⟩)
    (da_cons (de_call (E := E0) (R := Is (aT (bs.map .int))) (ok_undone T) room2 gd rfl T.undone.g T.undone.F.kp (b_undone T) pass0 (da_cons (de_var 2 rfl) (da_cons (de_var 3 rfl) (da_cons (de_var 4 rfl) da_nil))) fun as h => ⟨v, n, ws, d, h, hn, by omega, v2, hd, hw, by rw [eb]⟩) da_nil)) (by rw [e2]; rfl) (by show 2 ≤ 100000; decide)) (view_d _) (.inl ⟨_, rfl⟩) szd) (de_repr gd room.units T.n_repr (de_var 6 rfl) (view_d _) (.inl ⟨_, rfl⟩) szd)) fun c h => by simpa using h) (fun h => nomatch h) fun _ => ds_nil ?_)
  refine ds_cons (ds_if (T := fun c => c = false) (dt_imp (dt_neS (de_repr gd room.units T.n_repr (de_lst (ds := ds2) (da_cons (de_callK0 (E := E0) (as := [aT d.row, aT (ws.map .int), aI v]) (R := Is (aT (fs.map .int))) (ok_done T) room2 gd rfl T.done.g T.done.F.kp (kb_done T) pass0 (dk_cons (de_var 4 rfl) (dk_cons (de_var 3 rfl) (dk_cons (de_var 2 rfl) dk_nil))) rep_gR ⟨v, n, ws, d, rfl, hn, by omega, v2, hd, hw, by rw [ef]⟩)
    (da_cons (de_callK0 (E := E0) (as := [aT d.row, aT (ws.map .int), aI v]) (R := Is (aT (bs.map .int))) (ok_undone T) room2 gd rfl T.undone.g T.undone.F.kp (kb_undone T) pass0 (dk_cons (de_var 4 rfl) (dk_cons (de_var 3 rfl) (dk_cons (de_var 2 rfl) dk_nil))) rep_gR ⟨v, n, ws, d, rfl, hn, by omega, v2, hd, hw, by rw [eb]⟩) da_nil)) (by rw [e2]; rfl) (by show 2 ≤ 100000; decide)) (view_d _) (.inl ⟨_, rfl⟩) szd) (de_repr gd room.units T.n_repr (de_var 6 rfl) (view_d _) (.inl ⟨_, rfl⟩) szd)) fun c h => by simpa using h) (fun h => nomatch h) fun _ => ds_nil ?_)
  have szw := sz_two (sz_st (by omega) (by omega) hw) (sz_st (by omega) (by omega) hw)
  refine ds_cons (ds_if (T := fun c => c = false) (dt_imp (dt_neS (de_repr gd room.units T.n_repr (de_lst (ds := [.tuple (ws.map .int), .tuple (ws.map .int)]) (da_cons (de_call (E := E0) (R := Is (aT (ws.map .int))) (ok_undone T) room2 gd rfl T.undone.g T.undone.F.kp (b_undone T) pass0 (da_cons (de_var 2 rfl) (da_cons (de_ix (de_var 6 rfl) de_int (seqs_l _) i0) (da_cons (de_var 4 rfl) da_nil))) fun as h => ⟨v, n, fs, d, h, lf, by omega, v2, hd, hf, by rw [backF]⟩)
    (da_cons (de_call (E := E0) (R := Is (aT (ws.map .int))) (ok_done T) room2 gd rfl T.done.g T.done.F.kp (b_done T) pass0 (da_cons (de_var 2 rfl) (da_cons (de_ix (de_var 6 rfl) de_int (seqs_l _) i1) (da_cons (de_var 4 rfl) da_nil))) fun as h => ⟨v, n, bs, d, h, lb, by omega, v2, hd, hb, by rw [backB]⟩) da_nil)) rfl (by show 2 ≤ 100000; decide)) (view_d _) (.inl ⟨_, rfl⟩) szw) (de_repr gd room.units T.n_repr (de_lst (ds := [.tuple (ws.map .int), .tuple (ws.map .int)]) (da_cons (de_var 3 rfl) (da_cons (de_var 3 rfl) da_nil)) rfl (by show 2 ≤ 100000; decide)) (view_d _) (.inl ⟨_, rfl⟩) szw)) fun c h => by simpa using h) (fun h => nomatch h) fun _ => ds_nil ?_)
  refine ds_cons (ds_if (T := fun c => c = false) (dt_imp (dt_neS (s := str) (t := str) (de_is (de_repr gd room.units T.n_repr (de_lst (ds := [.tuple (ws.map .int), .tuple d.row]) (da_cons (de_var 3 rfl) (da_cons (de_var 4 rfl) da_nil)) rfl (by show 2 ≤ 100000; decide)) (view_d _) (.inl ⟨_, rfl⟩) sz2) (by rw [estr])) (de_var 5 rfl)) fun c h => by simpa using h) (fun h => nomatch h) fun _ => ds_nil ?_)
  have szs : Sz 50 10000000 (.tuple (ws.map .int)) := (sz_st (by omega) (by omega) hw).mono (by decide) (by decide)
  refine ds_one (ds_ret (R := Is (aB true)) (de_or (T := fun c => c = !inV (.str d.word) ((["xor", "and"] : List Str).map V.str)) (de_notInS (s := d.word) (ws := ["xor", "and"]) (de_ix (y := aS d.word) (de_var 4 rfl) de_int (seqs_t _) (by cases d <;> rfl)) (de_tup (ds := (["xor", "and"] : List Str).map .str) (da_cons de_str (da_cons de_str da_nil))) rfl) (fun y h => ⟨_, h, rfl⟩) (fun h => de_and1 (de_is (de_eqS (s := (PyData.tuple (ws.map .int)).shown) (t := (PyData.tuple (ws.map .int)).shown) (de_repr gd room.units T.n_repr (de_call (E := E0) (R := Is (aT (ws.map .int))) (ok_done T) room2 gd rfl T.done.g T.done.F.kp (b_done T) pass0 (da_cons (de_var 2 rfl) (da_cons (de_ix (de_var 6 rfl) de_int (seqs_l _) i0) (da_cons (de_var 4 rfl) da_nil))) fun as h' => ⟨v, n, fs, d, h', lf, by omega, v2, hd, hf, ?_⟩) (view_d _) (.inr (.inl ⟨_, rfl⟩)) szs)
    (de_repr gd room.units T.n_repr (de_var 3 rfl) (view_d _) (.inr (.inl ⟨_, rfl⟩)) szs)) (by rw [decide_eq_true rfl]))) (fun h => rfl)) fun a ha => ⟨rfl, ha⟩)
  have hx : d.word = "xor" ∨ d.word = "and" := by
    cases d with
    | add i j =>
      have h : false = !inV (.str "add") ((["xor", "and"] : List Str).map V.str) := h
      exact absurd h (by decide)
    | xor i j => exact .inl rfl
    | and i j k => exact .inr rfl
    | one i =>
      have h : false = !inV (.str "one") ((["xor", "and"] : List Str).map V.str) := h
      exact absurd h (by decide)
  rw [act_twice hx 1 (-1), backF]
/-! ### rows of deeds -/
def rowsD (ds : List Dd) : List PyData := ds.map fun d => .tuple d.row
def fwd (v : Nat) (ds : List Dd) (ws : List Int) : List Int := ds.foldl (fun ws d => d.act v 1 ws) ws
theorem fwd_snoc (v : Nat) (ds : List Dd) (d : Dd) (ws : List Int) : fwd v (ds ++ [d]) ws = d.act v 1 (fwd v ds ws) := by
  unfold fwd
  rw [List.foldl_append]
  rfl
theorem fwd_ok (v n : Nat) : ∀ (ds : List Dd) (ws : List Int), ws.length = n → InW v ws → (fwd v ds ws).length = n ∧ InW v (fwd v ds ws)
  | [], _, h1, h2 => ⟨h1, h2⟩
  | d :: ds, ws, h1, h2 => fwd_ok v n ds _ (by rw [act_len, h1]) (InW.act h2 d)
def again (v : Nat) (d : Dd) (ws : List Int) : Nat → List Int
  | 0 => ws
  | i + 1 => d.act v 1 (again v d ws i)
theorem again_ok (v n : Nat) (d : Dd) {ws : List Int} (h1 : ws.length = n) (h2 : InW v ws) : ∀ i, (again v d ws i).length = n ∧ InW v (again v d ws i)
  | 0 => ⟨h1, h2⟩
  | i + 1 => by
    have h := again_ok v n d h1 h2 i
    exact ⟨by show (d.act v 1 _).length = n; rw [act_len, h.1], InW.act h.2 d⟩
theorem set_self {ws : List Int} {i : Nat} (h : i < ws.length) : ws.set i (ws.getD i 0) = ws := by
  apply List.ext_getElem?
  intro j
  by_cases e : i = j
  · subst e
    rw [List.getElem?_set_self h, List.getD_eq_getElem?_getD, List.getElem?_eq_getElem h]
    rfl
  · rw [List.getElem?_set_ne e]
theorem again_one {v i : Nat} {ws : List Int} (h : i < ws.length) (hw : InW v ws) : ∀ m : Nat, again v (.one i) ws m = ws.set i ((ws.getD i 0 + m) % 2 ^ v)
  | 0 => by
    have e : (ws.getD i 0 + ((0 : Nat) : Int)) % 2 ^ v = ws.getD i 0 := by
      rw [show ((0 : Nat) : Int) = 0 from rfl, Int.add_zero]
      exact Int.emod_eq_of_lt (hw.get i).1 (hw.get i).2
    rw [e, set_self h]
    rfl
  | m + 1 => by
    show (Dd.one i).act v 1 (again v (.one i) ws m) = _
    rw [again_one h hw m]
    show (ws.set i _).set i (((ws.set i _).getD i 0 + 1) % 2 ^ v) = _
    rw [List.set_set, getD_set_eq h, Int.emod_add_emod]
    congr 2
    omega
theorem again_add {v i j : Nat} {ws : List Int} (h : i < ws.length) (ne : i ≠ j) (hw : InW v ws) : ∀ m : Nat, again v (.add i j) ws m = ws.set i ((ws.getD i 0 + m * ws.getD j 0) % 2 ^ v)
  | 0 => by
    have e : (ws.getD i 0 + ((0 : Nat) : Int) * ws.getD j 0) % 2 ^ v = ws.getD i 0 := by
      rw [show ((0 : Nat) : Int) = 0 from rfl, Int.zero_mul, Int.add_zero]
      exact Int.emod_eq_of_lt (hw.get i).1 (hw.get i).2
    rw [e, set_self h]
    rfl
  | m + 1 => by
    show (Dd.add i j).act v 1 (again v (.add i j) ws m) = _
    rw [again_add h ne hw m]
    show (ws.set i _).set i (((ws.set i _).getD i 0 + 1 * (ws.set i _).getD j 0) % 2 ^ v) = _
    rw [List.set_set, getD_set_eq h, getD_set_ne ne, Int.emod_add_emod]
    have e : ((m + 1 : Nat) : Int) * ws.getD j 0 = m * ws.getD j 0 + 1 * ws.getD j 0 := by
      rw [← Int.add_mul]
      congr 1
    rw [e, Int.add_assoc]
theorem again_all {v n : Nat} {d : Dd} {ws : List Int} (hd : d.Ok n) (hn : ws.length = n) (hw : InW v ws) (hk : d.word = "add" ∨ d.word = "one") : again v d ws (2 ^ v) = ws := by
  have e2 : ((2 ^ v : Nat) : Int) = 2 ^ v := by norm_cast
  cases d with
  | add i j =>
    obtain ⟨h1, h2, h3⟩ := hd
    rw [again_add (by omega) h3 hw, e2, Int.mul_comm, Int.add_mul_emod_self_right, Int.emod_eq_of_lt (hw.get i).1 (hw.get i).2]
    exact set_self (by omega)
  | xor i j => exact hk.elim (fun z => absurd (show ("xor" : Str) = "add" from z) (by decide)) fun z => absurd (show ("xor" : Str) = "one" from z) (by decide)
  | and i j k => exact hk.elim (fun z => absurd (show ("and" : Str) = "add" from z) (by decide)) fun z => absurd (show ("and" : Str) = "one" from z) (by decide)
  | one i =>
    have h : i < n := hd
    rw [again_one (by omega) hw, e2, Int.add_emod_right, Int.emod_eq_of_lt (hw.get i).1 (hw.get i).2]
    exact set_self (by omega)
theorem de_nv {X : Cx} {rs : Rs} {M : Mem} {ρ : List (Option Ab)} {a b : Expr} {q : Nat} {pos : Pos} {vm : Nat} (ha : DE X rs M ρ a (IntW fun r => 3 ≤ r ∧ r ≤ 8)) (hb : DE X rs M ρ b (IntW fun r => 1 ≤ r ∧ r ≤ vm)) (h1 : starEach [a, b] X.env = (false, eval a X.env) :: starEach [b] X.env := by rfl) (h2 : starEach [b] X.env = (false, eval b X.env) :: starEach [] X.env := by rfl) :
    DE X rs M ρ (.Tuple [a, b] q pos) (fun a => ∃ n v : Nat, a = aT [.int n, .int v] ∧ 3 ≤ n ∧ n ≤ 8 ∧ 1 ≤ v ∧ v ≤ vm) :=
  de_tupR (T := fun as => ∃ n v : Nat, as = [aI n, aI v] ∧ 3 ≤ n ∧ n ≤ 8 ∧ 1 ≤ v ∧ v ≤ vm)
    (da_consR ha (da_consR (T' := fun as => ∃ v : Nat, as = [aI v] ∧ 1 ≤ v ∧ v ≤ vm) hb da_nil (fun y ys ⟨r, h1, r1, r2⟩ h3 => ⟨r.toNat, by rw [h1, h3]; congr 2; omega, by omega, by omega⟩) h2) (fun y ys ⟨r, h1, r1, r2⟩ ⟨v, h3, h4⟩ => ⟨r.toNat, v, by rw [h1, h3]; congr 2; omega, by omega, by omega, h4⟩) h1)
    fun as ⟨n, v, h, r⟩ => ⟨by rw [h]; show 2 ≤ 100000; decide, [.int n, .int v], h, n, v, rfl, r⟩
theorem nI_words {D C : Addr} {M : Mem} {ks : List Nat} {vm : Nat} (h0 : ks ≠ []) (hl : ks.length ≤ 1000) (h : ∀ k ∈ ks, 1 ≤ k ∧ k ≤ vm) : ∀ as, as = [.at D, aL ((nI ks).map .int)] → S_lawPick (deckRs D C) M as (IntW fun r => 1 ≤ r ∧ r ≤ vm) := fun as e => by
  refine ⟨D, C, _, rfl, e, fun z => h0 ?_, ?_, fun d hd => ?_⟩
  · exact List.map_eq_nil_iff.mp (List.map_eq_nil_iff.mp z)
  · unfold nI
    rw [List.length_map, List.length_map]
    omega
  · unfold nI at hd
    rw [List.map_map] at hd
    obtain ⟨k, hk, rfl⟩ := List.mem_map.mp hd
    have := h k hk
    exact ⟨_, rfl, by show 1 ≤ (k : Int); omega, by show (k : Int) ≤ _; omega⟩
theorem ok_law (T : Txt K mg) : FnG P w K mg base CX0 5 T.law.f T.law.fd ["script"] (Spec K (S_lawG K)) := by
  refine fn_law T.law.F sc_law fun cdv A outer s H0 E room gd ns hl => ?_
  have nd := sc_law.nd
  have room3 : Room 3 _ := room.mono (by decide)
  have room2 : Room 2 _ := room.mono (by decide)
  have room1 : Room 1 _ := room.mono (by decide)
  refine ds_cons (ds_deck 1 (ok_lawDeck T) room1 gd T.lawDeck.g T.lawDeck.F.kp (b_lawDeck T) (de_var 0 rfl) hl (fun D C => ?_) nd)
  show DSs _ _ ⟨deckRs D C, [], [some (aScr K ns), some (.at D), none, none, none, none, none, none, none]⟩ _ _
  -- deeds one by one
  refine ds_cons (ds_for (fun m item i S => ∃ y2 y3 y4, S = ⟨deckRs D C, [], [some (aScr K ns), some (.at D), y2, y3, y4, none, none, none, none]⟩) (RI := fun m item => m = 8 ∧ item = AtR 0)
    (di_range1 rfl T.n_range (da_cons de_int da_nil) fun as h => ⟨8, h, by decide, by decide, rfl, rfl⟩) (dg_name 2 nd) (fun m item _ => ⟨none, none, none, rfl⟩)
    (fun m item i S a ⟨hm, hi⟩ hlt ⟨y2, y3, y4, e⟩ ia => ?_) (fun m item S ⟨hm, hi⟩ ⟨y2, y3, y4, e⟩ => ?_) PassesOwn.never rfl)
  · subst e
    refine ⟨_, rfl, ?_⟩
    show DSs _ _ ⟨deckRs D C, [], [some (aScr K ns), some (.at D), some a, y3, y4, none, none, none, none]⟩ _ _
    refine ds_cons (ds_asg (de_nv (vm := 64) (de_addW (W := fun r => 0 ≤ r ∧ r < 6) de_int (de_call (E := E0) (R := Below 6) (ok_lawDraw T) room1 gd rfl T.lawDraw.g T.lawDraw.F.kp (b_lawDraw T) pass0 (da_cons (de_var 1 rfl) (da_cons de_int da_nil)) fun as h => ⟨D, C, 6, rfl, h, by decide, by decide, rfl⟩) (fun j h => ⟨by omega, by omega⟩))
      (de_call (E := E0) (ok_lawPick T) room2 gd rfl T.lawPick.g T.lawPick.F.kp (b_lawPick T) pass0 (da_cons (de_var 1 rfl) (da_cons (de_lst (ds := (nI [1, 1, 2, 3, 4, 8, 17, 64]).map .int) (da_cons de_int (da_cons de_int (da_cons de_int (da_cons de_int (da_cons de_int (da_cons de_int (da_cons de_int (da_cons de_int da_nil)))))))))  da_nil)) (nI_words (by decide) (by decide) (by decide)))) (dg_tup rfl (dgs_cons 3 (dgs_cons 4 dgs_nil nd) nd)) fun a ⟨n, v, ha, n1, n2, v1, v2⟩ => ⟨_, ⟨_, ha, rfl, rfl⟩, ?_⟩)
    show DSs _ _ ⟨deckRs D C, [], [some (aScr K ns), some (.at D), some _, some (aI n), some (aI v), none, none, none, none]⟩ _ _
    refine ds_one (ds_if (dt_notTrue (de_call (E := E0) (R := Is (aB true)) (ok_lawIsRight T) room gd rfl T.lawIsRight.g T.lawIsRight.F.kp (b_lawIsRight T) pass0 (da_cons (de_var 1 rfl) (da_cons (de_var 3 rfl) (da_cons (de_var 4 rfl) da_nil))) fun as h => ⟨D, C, n, v, rfl, h, n1, n2, v1, v2, rfl⟩)) (fun h => nomatch h) fun _ => ds_nil ?_)
    exact ⟨_, _, _, rfl⟩
  subst e
  -- a row of deeds
  refine ds_cons (ds_asg (de_nv (vm := 64) (de_addW (W := fun r => 0 ≤ r ∧ r < 6) de_int (de_call (E := E0) (R := Below 6) (ok_lawDraw T) room1 gd rfl T.lawDraw.g T.lawDraw.F.kp (b_lawDraw T) pass0 (da_cons (de_var 1 rfl) (da_cons de_int da_nil)) fun as h => ⟨D, C, 6, rfl, h, by decide, by decide, rfl⟩) (fun j h => ⟨by omega, by omega⟩))
    (de_call (E := E0) (ok_lawPick T) room2 gd rfl T.lawPick.g T.lawPick.F.kp (b_lawPick T) pass0 (da_cons (de_var 1 rfl) (da_cons (de_lst (ds := (nI [1, 2, 3, 8, 64]).map .int) (da_cons de_int (da_cons de_int (da_cons de_int (da_cons de_int (da_cons de_int da_nil))))))  da_nil)) (nI_words (by decide) (by decide) (by decide)))) (dg_tup rfl (dgs_cons 3 (dgs_cons 4 dgs_nil nd) nd)) fun a ⟨n, v, ha, n1, n2, v1, v2⟩ => ⟨_, ⟨_, ha, rfl, rfl⟩, ?_⟩)
  show DSs _ _ ⟨deckRs D C, [], [some (aScr K ns), some (.at D), y2, some (aI n), some (aI v), none, none, none, none]⟩ _ _
  refine ds_cons (ds_set 5 (de_call (E := E0) (R := IsState n v) (ok_lawState T) room3 gd rfl T.lawState.g T.lawState.F.kp (b_lawState T) pass0 (da_cons (de_var 1 rfl) (da_cons (de_var 3 rfl) (da_cons (de_var 4 rfl) da_nil))) fun as h => ⟨D, C, n, v, rfl, h, by omega, v1, v2, rfl⟩) (fun a ⟨ws, ha, hn, hw⟩ => ?_) nd)
  subst ha
  have hw : InW v ws := hw
  show DSs _ _ ⟨deckRs D C, [], [some (aScr K ns), some (.at D), y2, some (aI n), some (aI v), some (aT (ws.map .int)), none, none, none]⟩ _ _
  refine ds_cons (ds_setLc (R := fun a => ∃ ds : List Dd, a = aL (rowsD ds) ∧ ∀ d ∈ ds, d.Ok n) 6 (own := [("turn", 2)]) (fun m item i acc => ∃ ds : List Dd, acc = (rowsD ds).map .d ∧ ds.length = i ∧ ∀ d ∈ ds, d.Ok n) (RI := fun m item => m = 12 ∧ item = AtR 0)
    (di_range1 rfl T.n_range (da_cons de_int da_nil) fun as h => ⟨12, h, by decide, by decide, rfl, rfl⟩)
    rfl nd (blkOk_by (N := N_law) (sc := defScope s_law) (by decide +kernel)) (fun s H C' cl fp => dg_name 2 nd) (fun _ _ _ => ⟨[], rfl, rfl, fun _ h => absurd h List.not_mem_nil⟩) (fun m item i acc a ⟨q1, q2⟩ hlt ⟨ds, hacc, hdl, hds⟩ ia => ?_) (fun m item acc ⟨q1, q2⟩ ⟨ds, hacc, hdl, hds⟩ => ⟨_, hacc, ds, rfl, hds⟩) (fun i h => h) fun a ⟨ds, ha, hds⟩ => ?_)
  · subst hacc
    refine ⟨by rw [List.length_map]; unfold rowsD; rw [List.length_map]; omega, _, fun b => b = true, rfl, fun s H C' cl fp => dts_nil, fun _ => fun s H C' cl fp => ?_, fun h => nomatch h⟩
    refine de_imp (de_call (E := E0) (R := IsDeed n ["add", "xor", "and", "one"]) (ok_lawDeed T) room3 gd rfl T.lawDeed.g T.lawDeed.F.kp (b_lawDeed T) pass0 (da_cons (de_var 1 rfl) (da_cons (de_var 3 rfl) (da_cons (de_lst (ds := (["add", "xor", "and", "one"] : List Str).map .str) (da_cons de_str (da_cons de_str (da_cons de_str (da_cons de_str da_nil))))) da_nil))) fun as h => ⟨D, C, n, _, rfl, h, n1, by omega, by decide, by decide, by decide, rfl⟩) fun z ⟨d, hz, hd, _⟩ => ?_
    refine ⟨ds ++ [d], ?_, by rw [List.length_append, hdl]; rfl, fun u hu => ?_⟩
    · rw [hz]
      unfold rowsD
      rw [List.map_append, List.map_append]
      rfl
    · rcases List.mem_append.mp hu with h | h
      · exact hds u h
      · rw [List.mem_singleton.mp h]
        exact hd
  subst ha
  show DSs _ _ ⟨deckRs D C, [], [some (aScr K ns), some (.at D), y2, some (aI n), some (aI v), some (aT (ws.map .int)), some (aL (rowsD ds)), none, none]⟩ _ _
  refine ds_cons (ds_set 7 (de_var 5 rfl) (fun a ha => ?_) nd)
  subst ha
  show DSs _ _ ⟨deckRs D C, [], [some (aScr K ns), some (.at D), y2, some (aI n), some (aI v), some (aT (ws.map .int)), some (aL (rowsD ds)), some (aT (ws.map .int)), none]⟩ _ _
  have at_d : ∀ {ds : List Dd} {i : Nat} {a : Ab}, AtD (rowsD ds) i a → ∃ d, ds[i]? = some d ∧ a = aT d.row := fun {ds i a} h => by
    obtain ⟨x, hx, rfl⟩ := atD_get h
    unfold rowsD at hx
    rw [List.getElem?_map] at hx
    match he : ds[i]?, hx with
    | some d, hx =>
      have hx : PyData.tuple d.row = x := Option.some.inj hx
      exact ⟨d, rfl, by rw [← hx]⟩
  have len_d : ∀ ds : List Dd, (rowsD ds).length = ds.length := fun ds => by unfold rowsD; rw [List.length_map]
  refine ds_cons (ds_for (fun m item i S => ∃ y8, S = ⟨deckRs D C, [], [some (aScr K ns), some (.at D), y2, some (aI n), some (aI v), some (aT (ws.map .int)), some (aL (rowsD ds)), some (aT ((fwd v (ds.take i) ws).map .int)), y8]⟩) (RI := fun m item => m = ds.length ∧ item = AtD (rowsD ds))
    (di_list (de_var 6 rfl) fun y h => ⟨_, h, len_d ds, rfl⟩) (dg_name 8 nd) (fun m item _ => ⟨none, rfl⟩) (fun m item i S a ⟨hm, hi⟩ hlt ⟨y8, e⟩ ia => ?_) (fun m item S ⟨hm, hi⟩ ⟨y8, e⟩ => ?_) PassesOwn.never rfl)
  · subst hm hi e
    obtain ⟨d, hd, rfl⟩ := at_d ia
    have ok := fwd_ok v n (ds.take i) ws hn hw
    refine ⟨_, rfl, ds_one (ds_set 7 (R := Is (aT ((d.act v 1 (fwd v (ds.take i) ws)).map .int))) (de_call (E := E0) (ok_done T) room2 gd rfl T.done.g T.done.F.kp (b_done T) pass0 (da_cons (de_var 4 rfl) (da_cons (de_var 7 rfl) (da_cons (de_var 8 rfl) da_nil))) fun as h => ⟨v, n, _, d, h, ok.1, by omega, v2, hds d (List.mem_of_getElem? hd), ok.2, rfl⟩) (fun a ha => ?_) nd)⟩
    subst ha
    exact ⟨some (aT d.row), by rw [take_snoc hd, fwd_snoc]; rfl⟩
  subst hm hi e
  rw [List.take_length]
  refine ds_cons (ds_for (fun m item i S => ∃ y8, S = ⟨deckRs D C, [], [some (aScr K ns), some (.at D), y2, some (aI n), some (aI v), some (aT (ws.map .int)), some (aL (rowsD ds)), some (aT ((fwd v (ds.take (ds.length - i)) ws).map .int)), y8]⟩) (RI := fun m item => m = ds.length ∧ item = AtD (rowsD ds.reverse))
    (di_list (de_of_dn (R := Is (aL (rowsD ds.reverse))) (dn_revL (de_var 6 rfl) (seqM_l _).l) fun as h => ⟨rowsD ds.reverse, by rw [h]; unfold rowsD; rw [← List.map_reverse, ← List.map_reverse], rfl⟩) fun y h => ⟨_, h, by rw [len_d, List.length_reverse], rfl⟩) (dg_name 8 nd) (fun m item _ => ⟨y8, by rw [Nat.sub_zero, List.take_length]⟩) (fun m item i S a ⟨hm, hi⟩ hlt ⟨y8, e⟩ ia => ?_) (fun m item S ⟨hm, hi⟩ ⟨y8, e⟩ => ?_) PassesOwn.never rfl)
  · subst hm hi e
    obtain ⟨d, hd, rfl⟩ := at_d ia
    rw [List.getElem?_reverse (by omega)] at hd
    have ok := fwd_ok v n (ds.take (ds.length - 1 - i)) ws hn hw
    have ok2 := fwd_ok v n (ds.take (ds.length - i)) ws hn hw
    have dok := hds d (List.mem_of_getElem? hd)
    have es : ds.take (ds.length - i) = ds.take (ds.length - 1 - i) ++ [d] := by
      rw [← take_snoc hd]
      congr 1
      omega
    have back : d.act v (-1) (fwd v (ds.take (ds.length - i)) ws) = fwd v (ds.take (ds.length - 1 - i)) ws := by
      rw [es, fwd_snoc]
      exact act_back dok ok.1 ok.2
    refine ⟨_, rfl, ds_one (ds_set 7 (R := Is (aT ((fwd v (ds.take (ds.length - 1 - i)) ws).map .int))) (de_call (E := E0) (ok_undone T) room2 gd rfl T.undone.g T.undone.F.kp (b_undone T) pass0 (da_cons (de_var 4 rfl) (da_cons (de_var 7 rfl) (da_cons (de_var 8 rfl) da_nil))) fun as h => ⟨v, n, _, d, h, ok2.1, by omega, v2, dok, ok2.2, by rw [back]⟩) (fun a ha => ?_) nd)⟩
    subst ha
    exact ⟨some (aT d.row), by rw [show ds.length - (i + 1) = ds.length - 1 - i by omega]; rfl⟩
  subst hm hi e
  rw [Nat.sub_self, List.take_zero]
  have szs : Sz 50 10000000 (.tuple (ws.map .int)) := (sz_st (by omega) (by omega) hw).mono (by decide) (by decide)
  refine ds_cons (ds_if (T := fun c => c = false) (dt_imp (dt_neS (s := (PyData.tuple (ws.map .int)).shown) (t := (PyData.tuple (ws.map .int)).shown) (de_repr gd room.units T.n_repr (de_var 7 rfl) (view_d _) (.inr (.inl ⟨_, rfl⟩)) szs) (de_repr gd room.units T.n_repr (de_var 5 rfl) (view_d _) (.inr (.inl ⟨_, rfl⟩)) szs)) fun c h => by simpa using h) (fun h => nomatch h) fun _ => ds_nil ?_)
  clear hw szs
  -- a sum done 2 ** w times
  refine ds_cons (ds_asg (de_nv (vm := 5) (de_addW (W := fun r => 0 ≤ r ∧ r < 2) de_int (de_call (E := E0) (R := Below 2) (ok_lawDraw T) room1 gd rfl T.lawDraw.g T.lawDraw.F.kp (b_lawDraw T) pass0 (da_cons (de_var 1 rfl) (da_cons de_int da_nil)) fun as h => ⟨D, C, 2, rfl, h, by decide, by decide, rfl⟩) (fun j h => ⟨by omega, by omega⟩))
    (de_addW (W := fun r => 0 ≤ r ∧ r < 5) de_int (de_call (E := E0) (R := Below 5) (ok_lawDraw T) room1 gd rfl T.lawDraw.g T.lawDraw.F.kp (b_lawDraw T) pass0 (da_cons (de_var 1 rfl) (da_cons de_int da_nil)) fun as h => ⟨D, C, 5, rfl, h, by decide, by decide, rfl⟩) (fun j h => ⟨by omega, by omega⟩))) (dg_tup rfl (dgs_cons 3 (dgs_cons 4 dgs_nil nd) nd)) fun a ⟨n, v, ha, n1, n2, v1, v2⟩ => ⟨_, ⟨_, ha, rfl, rfl⟩, ?_⟩)
  show DSs _ _ ⟨deckRs D C, [], [some (aScr K ns), some (.at D), y2, some (aI n), some (aI v), some (aT (ws.map .int)), some (aL (rowsD ds)), some (aT (ws.map .int)), y8]⟩ _ _
  refine ds_cons (ds_par (i := 5) (j := 8) rfl nd (dax_cons (dx_of (de_call (E := E0) (R := IsState n v) (ok_lawState T) room3 gd rfl T.lawState.g T.lawState.F.kp (b_lawState T) pass0 (da_cons (de_var 1 rfl) (da_cons (de_var 3 rfl) (da_cons (de_var 4 rfl) da_nil))) fun as h => ⟨D, C, n, v, rfl, h, by omega, v1, by omega, rfl⟩) fun a ha =>
    dax_cons (dx_of (de_call (E := E0) (R := IsDeed n ["add", "one"]) (ok_lawDeed T) room3 gd rfl T.lawDeed.g T.lawDeed.F.kp (b_lawDeed T) pass0 (da_cons (de_var 1 rfl) (da_cons (de_var 3 rfl) (da_cons (de_lst (ds := (["add", "one"] : List Str).map .str) (da_cons de_str (da_cons de_str da_nil))) da_nil))) fun as h => ⟨D, C, n, _, rfl, h, n1, by omega, by decide, by decide, by decide, rfl⟩) fun b hb => dax_nil ⟨_, _, rfl, ?_⟩))))
  obtain ⟨us, rfl, hn, hw⟩ := ha
  obtain ⟨d, rfl, hd, hk⟩ := hb
  have hw : InW v us := hw
  have hk : d.word = "add" ∨ d.word = "one" := by
    rcases List.mem_cons.mp hk with h | hk
    · exact .inl h
    · exact .inr (List.mem_singleton.mp hk)
  show DSs _ _ ⟨deckRs D C, [], [some (aScr K ns), some (.at D), y2, some (aI n), some (aI v), some (aT (us.map .int)), some (aL (rowsD ds)), some (aT (ws.map .int)), some (aT d.row)]⟩ _ _
  refine ds_cons (ds_set 7 (de_var 5 rfl) (fun a ha => ?_) nd)
  subst ha
  show DSs _ _ ⟨deckRs D C, [], [some (aScr K ns), some (.at D), y2, some (aI n), some (aI v), some (aT (us.map .int)), some (aL (rowsD ds)), some (aT (us.map .int)), some (aT d.row)]⟩ _ _
  have e2 : ((2 ^ v : Nat) : Int) = 2 ^ v := by norm_cast
  have p32 : 2 ^ v ≤ 2 ^ 5 := Nat.pow_le_pow_right (by decide) v2
  refine ds_cons (ds_for (fun m item i S => ∃ y2, S = ⟨deckRs D C, [], [some (aScr K ns), some (.at D), y2, some (aI n), some (aI v), some (aT (us.map .int)), some (aL (rowsD ds)), some (aT ((again v d us i).map .int)), some (aT d.row)]⟩) (RI := fun m item => m = 2 ^ v ∧ item = AtR 0)
    (di_range1 rfl T.n_range (da_cons (de_shl de_int (de_var 4 rfl) (cpw (by omega))) da_nil) fun as h => ⟨2 ^ v, by rw [h, one_shl], by have := two_pow_pos v; omega, by omega, by rw [← e2, Int.toNat_natCast], rfl⟩) (dg_name 2 nd) (fun m item _ => ⟨y2, rfl⟩) (fun m item i S a ⟨hm, hi⟩ hlt ⟨y2, e⟩ ia => ?_) (fun m item S ⟨hm, hi⟩ ⟨y2, e⟩ => ?_) PassesOwn.never rfl)
  · subst e
    have ok := again_ok v n d hn hw i
    refine ⟨_, rfl, ds_one (ds_set 7 (R := Is (aT ((again v d us (i + 1)).map .int))) (de_call (E := E0) (ok_done T) room2 gd rfl T.done.g T.done.F.kp (b_done T) pass0 (da_cons (de_var 4 rfl) (da_cons (de_var 7 rfl) (da_cons (de_var 8 rfl) da_nil))) fun as h => ⟨v, n, _, d, h, ok.1, by omega, by omega, hd, ok.2, rfl⟩) (fun b hb => ?_) nd)⟩
    subst hb
    exact ⟨some a, rfl⟩
  subst hm hi e
  rw [again_all hd hn hw hk]
  have szs : Sz 50 10000000 (.tuple (us.map .int)) := (sz_st (by omega) (by omega) hw).mono (by decide) (by decide)
  exact ds_one (ds_ret (R := Is (aB true)) (de_is (de_eqS (s := (PyData.tuple (us.map .int)).shown) (t := (PyData.tuple (us.map .int)).shown) (de_repr gd room.units T.n_repr (de_var 7 rfl) (view_d _) (.inr (.inl ⟨_, rfl⟩)) szs) (de_repr gd room.units T.n_repr (de_var 5 rfl) (view_d _) (.inr (.inl ⟨_, rfl⟩)) szs)) (by rw [decide_eq_true rfl])) fun a ha => ha)
end
/-! ### the end -/
theorem all_mk {l : PySem.W.OpenLaw} {w : World} {K : PySem.W.Frag} {h : Heap} {mg : Str → Option Value} {fa : Addr} (X : K.In h) (G : h.Ns mainGlobals mg) (hfa : mg "law" = some (.ref fa))
    {f0 : Addr} {od0 an0 : Option Addr} {sl0 : Array (Option Value)} {oc0 kV0 dc0 pm0 cd0 ct0 : Value}
    (a0 : PySem.W.nsIn K mainGlobals "done" = some (some (.ref f0))) (l0 : K.lookup f0 = some ⟨oc0, od0, .func (PySem.W.fnOf "done" "done" (defArgs s_done) (defBody s_done) (defScope s_done) .none kV0 dc0 pm0 an0 cd0 ct0), sl0⟩) (c0 : PySem.W.codeIn K cd0 "done" = true) (k0 : PySem.W.keepIn K (.ref f0) = true)
    {f1 : Addr} {od1 an1 : Option Addr} {sl1 : Array (Option Value)} {oc1 kV1 dc1 pm1 cd1 ct1 : Value}
    (a1 : PySem.W.nsIn K mainGlobals "undone" = some (some (.ref f1))) (l1 : K.lookup f1 = some ⟨oc1, od1, .func (PySem.W.fnOf "undone" "undone" (defArgs s_undone) (defBody s_undone) (defScope s_undone) .none kV1 dc1 pm1 an1 cd1 ct1), sl1⟩) (c1 : PySem.W.codeIn K cd1 "undone" = true) (k1 : PySem.W.keepIn K (.ref f1) = true)
    {f2 : Addr} {od2 an2 : Option Addr} {sl2 : Array (Option Value)} {oc2 kV2 dc2 pm2 cd2 ct2 : Value}
    (a2 : PySem.W.nsIn K mainGlobals "_changed" = some (some (.ref f2))) (l2 : K.lookup f2 = some ⟨oc2, od2, .func (PySem.W.fnOf "_changed" "_changed" (defArgs s_changed) (defBody s_changed) (defScope s_changed) .none kV2 dc2 pm2 an2 cd2 ct2), sl2⟩) (c2 : PySem.W.codeIn K cd2 "_changed" = true) (k2 : PySem.W.keepIn K (.ref f2) = true)
    {f3 : Addr} {od3 an3 : Option Addr} {sl3 : Array (Option Value)} {oc3 kV3 dc3 pm3 cd3 ct3 : Value}
    (a3 : PySem.W.nsIn K mainGlobals "_with_word" = some (some (.ref f3))) (l3 : K.lookup f3 = some ⟨oc3, od3, .func (PySem.W.fnOf "_with_word" "_with_word" (defArgs s_withWord) (defBody s_withWord) (defScope s_withWord) .none kV3 dc3 pm3 an3 cd3 ct3), sl3⟩) (c3 : PySem.W.codeIn K cd3 "_with_word" = true) (k3 : PySem.W.keepIn K (.ref f3) = true)
    {f4 : Addr} {od4 an4 : Option Addr} {sl4 : Array (Option Value)} {oc4 kV4 dc4 pm4 cd4 ct4 : Value}
    (a4 : PySem.W.nsIn K mainGlobals "_law_deck" = some (some (.ref f4))) (l4 : K.lookup f4 = some ⟨oc4, od4, .func (PySem.W.fnOf "_law_deck" "_law_deck" (defArgs s_lawDeck) (defBody s_lawDeck) (defScope s_lawDeck) .none kV4 dc4 pm4 an4 cd4 ct4), sl4⟩) (c4 : PySem.W.codeIn K cd4 "_law_deck" = true) (k4 : PySem.W.keepIn K (.ref f4) = true)
    {f5 : Addr} {od5 an5 : Option Addr} {sl5 : Array (Option Value)} {oc5 kV5 dc5 pm5 cd5 ct5 : Value}
    (a5 : PySem.W.nsIn K mainGlobals "_law_draw" = some (some (.ref f5))) (l5 : K.lookup f5 = some ⟨oc5, od5, .func (PySem.W.fnOf "_law_draw" "_law_draw" (defArgs s_lawDraw) (defBody s_lawDraw) (defScope s_lawDraw) .none kV5 dc5 pm5 an5 cd5 ct5), sl5⟩) (c5 : PySem.W.codeIn K cd5 "_law_draw" = true) (k5 : PySem.W.keepIn K (.ref f5) = true)
    {f6 : Addr} {od6 an6 : Option Addr} {sl6 : Array (Option Value)} {oc6 kV6 dc6 pm6 cd6 ct6 : Value}
    (a6 : PySem.W.nsIn K mainGlobals "_law_pick" = some (some (.ref f6))) (l6 : K.lookup f6 = some ⟨oc6, od6, .func (PySem.W.fnOf "_law_pick" "_law_pick" (defArgs s_lawPick) (defBody s_lawPick) (defScope s_lawPick) .none kV6 dc6 pm6 an6 cd6 ct6), sl6⟩) (c6 : PySem.W.codeIn K cd6 "_law_pick" = true) (k6 : PySem.W.keepIn K (.ref f6) = true)
    {f7 : Addr} {od7 an7 : Option Addr} {sl7 : Array (Option Value)} {oc7 kV7 dc7 pm7 cd7 ct7 : Value}
    (a7 : PySem.W.nsIn K mainGlobals "_law_mixed" = some (some (.ref f7))) (l7 : K.lookup f7 = some ⟨oc7, od7, .func (PySem.W.fnOf "_law_mixed" "_law_mixed" (defArgs s_lawMixed) (defBody s_lawMixed) (defScope s_lawMixed) .none kV7 dc7 pm7 an7 cd7 ct7), sl7⟩) (c7 : PySem.W.codeIn K cd7 "_law_mixed" = true) (k7 : PySem.W.keepIn K (.ref f7) = true)
    {f8 : Addr} {od8 an8 : Option Addr} {sl8 : Array (Option Value)} {oc8 kV8 dc8 pm8 cd8 ct8 : Value}
    (a8 : PySem.W.nsIn K mainGlobals "_law_word" = some (some (.ref f8))) (l8 : K.lookup f8 = some ⟨oc8, od8, .func (PySem.W.fnOf "_law_word" "_law_word" (defArgs s_lawWord) (defBody s_lawWord) (defScope s_lawWord) .none kV8 dc8 pm8 an8 cd8 ct8), sl8⟩) (c8 : PySem.W.codeIn K cd8 "_law_word" = true) (k8 : PySem.W.keepIn K (.ref f8) = true)
    {f9 : Addr} {od9 an9 : Option Addr} {sl9 : Array (Option Value)} {oc9 kV9 dc9 pm9 cd9 ct9 : Value}
    (a9 : PySem.W.nsIn K mainGlobals "_law_state" = some (some (.ref f9))) (l9 : K.lookup f9 = some ⟨oc9, od9, .func (PySem.W.fnOf "_law_state" "_law_state" (defArgs s_lawState) (defBody s_lawState) (defScope s_lawState) .none kV9 dc9 pm9 an9 cd9 ct9), sl9⟩) (c9 : PySem.W.codeIn K cd9 "_law_state" = true) (k9 : PySem.W.keepIn K (.ref f9) = true)
    {f10 : Addr} {od10 an10 : Option Addr} {sl10 : Array (Option Value)} {oc10 kV10 dc10 pm10 cd10 ct10 : Value}
    (a10 : PySem.W.nsIn K mainGlobals "_law_deed" = some (some (.ref f10))) (l10 : K.lookup f10 = some ⟨oc10, od10, .func (PySem.W.fnOf "_law_deed" "_law_deed" (defArgs s_lawDeed) (defBody s_lawDeed) (defScope s_lawDeed) .none kV10 dc10 pm10 an10 cd10 ct10), sl10⟩) (c10 : PySem.W.codeIn K cd10 "_law_deed" = true) (k10 : PySem.W.keepIn K (.ref f10) = true)
    {f11 : Addr} {od11 an11 : Option Addr} {sl11 : Array (Option Value)} {oc11 kV11 dc11 pm11 cd11 ct11 : Value}
    (a11 : PySem.W.nsIn K mainGlobals "_law_sum" = some (some (.ref f11))) (l11 : K.lookup f11 = some ⟨oc11, od11, .func (PySem.W.fnOf "_law_sum" "_law_sum" (defArgs s_lawSum) (defBody s_lawSum) (defScope s_lawSum) .none kV11 dc11 pm11 an11 cd11 ct11), sl11⟩) (c11 : PySem.W.codeIn K cd11 "_law_sum" = true) (k11 : PySem.W.keepIn K (.ref f11) = true)
    {f12 : Addr} {od12 an12 : Option Addr} {sl12 : Array (Option Value)} {oc12 kV12 dc12 pm12 cd12 ct12 : Value}
    (a12 : PySem.W.nsIn K mainGlobals "_law_turned" = some (some (.ref f12))) (l12 : K.lookup f12 = some ⟨oc12, od12, .func (PySem.W.fnOf "_law_turned" "_law_turned" (defArgs s_lawTurned) (defBody s_lawTurned) (defScope s_lawTurned) .none kV12 dc12 pm12 an12 cd12 ct12), sl12⟩) (c12 : PySem.W.codeIn K cd12 "_law_turned" = true) (k12 : PySem.W.keepIn K (.ref f12) = true)
    {f13 : Addr} {od13 an13 : Option Addr} {sl13 : Array (Option Value)} {oc13 kV13 dc13 pm13 cd13 ct13 : Value}
    (a13 : PySem.W.nsIn K mainGlobals "_law_shared" = some (some (.ref f13))) (l13 : K.lookup f13 = some ⟨oc13, od13, .func (PySem.W.fnOf "_law_shared" "_law_shared" (defArgs s_lawShared) (defBody s_lawShared) (defScope s_lawShared) .none kV13 dc13 pm13 an13 cd13 ct13), sl13⟩) (c13 : PySem.W.codeIn K cd13 "_law_shared" = true) (k13 : PySem.W.keepIn K (.ref f13) = true)
    {f14 : Addr} {od14 an14 : Option Addr} {sl14 : Array (Option Value)} {oc14 kV14 dc14 pm14 cd14 ct14 : Value}
    (a14 : PySem.W.nsIn K mainGlobals "_law_due" = some (some (.ref f14))) (l14 : K.lookup f14 = some ⟨oc14, od14, .func (PySem.W.fnOf "_law_due" "_law_due" (defArgs s_lawDue) (defBody s_lawDue) (defScope s_lawDue) .none kV14 dc14 pm14 an14 cd14 ct14), sl14⟩) (c14 : PySem.W.codeIn K cd14 "_law_due" = true) (k14 : PySem.W.keepIn K (.ref f14) = true)
    {f15 : Addr} {od15 an15 : Option Addr} {sl15 : Array (Option Value)} {oc15 kV15 dc15 pm15 cd15 ct15 : Value}
    (a15 : PySem.W.nsIn K mainGlobals "_law_is_right" = some (some (.ref f15))) (l15 : K.lookup f15 = some ⟨oc15, od15, .func (PySem.W.fnOf "_law_is_right" "_law_is_right" (defArgs s_lawIsRight) (defBody s_lawIsRight) (defScope s_lawIsRight) .none kV15 dc15 pm15 an15 cd15 ct15), sl15⟩) (c15 : PySem.W.codeIn K cd15 "_law_is_right" = true) (k15 : PySem.W.keepIn K (.ref f15) = true)
    {f16 : Addr} {od16 an16 : Option Addr} {sl16 : Array (Option Value)} {oc16 kV16 dc16 pm16 cd16 ct16 : Value}
    (a16 : PySem.W.nsIn K mainGlobals "law" = some (some (.ref f16))) (l16 : K.lookup f16 = some ⟨oc16, od16, .func (PySem.W.fnOf "law" "law" (defArgs s_law) (defBody s_law) (defScope s_law) .none kV16 dc16 pm16 an16 cd16 ct16), sl16⟩) (c16 : PySem.W.codeIn K cd16 "law" = true) (k16 : PySem.W.keepIn K (.ref f16) = true)
    (z_abs : PySem.W.nsIn K mainGlobals "abs" = some none)
    (z_int : PySem.W.nsIn K mainGlobals "int" = some none)
    (z_len : PySem.W.nsIn K mainGlobals "len" = some none)
    (z_list : PySem.W.nsIn K mainGlobals "list" = some none)
    (z_max : PySem.W.nsIn K mainGlobals "max" = some none)
    (z_min : PySem.W.nsIn K mainGlobals "min" = some none)
    (z_range : PySem.W.nsIn K mainGlobals "range" = some none)
    (z_repr : PySem.W.nsIn K mainGlobals "repr" = some none)
    (z_tuple : PySem.W.nsIn K mainGlobals "tuple" = some none)
    : ∃ fd : FuncData, (∀ (s : Shared) (v : Value), BindsTo s fd ⟨[v], []⟩ [("script", v)]) ∧ ∀ base : Heap, K.In base → base.Ns mainGlobals mg → FnG l.prog w K mg base CX0 5 fa fd ["script"] (Spec K (S_lawG K)) := by
  have e := hfa.symm.trans (PySem.W.mg_of X G a16)
  cases e
  let T : Txt K mg := {
    done := ⟨f0, _, fun_mk (st := s_done) l0 c0 k0, PySem.W.mg_of X G a0⟩
    undone := ⟨f1, _, fun_mk (st := s_undone) l1 c1 k1, PySem.W.mg_of X G a1⟩
    changed := ⟨f2, _, fun_mk (st := s_changed) l2 c2 k2, PySem.W.mg_of X G a2⟩
    withWord := ⟨f3, _, fun_mk (st := s_withWord) l3 c3 k3, PySem.W.mg_of X G a3⟩
    lawDeck := ⟨f4, _, fun_mk (st := s_lawDeck) l4 c4 k4, PySem.W.mg_of X G a4⟩
    lawDraw := ⟨f5, _, fun_mk (st := s_lawDraw) l5 c5 k5, PySem.W.mg_of X G a5⟩
    lawPick := ⟨f6, _, fun_mk (st := s_lawPick) l6 c6 k6, PySem.W.mg_of X G a6⟩
    lawMixed := ⟨f7, _, fun_mk (st := s_lawMixed) l7 c7 k7, PySem.W.mg_of X G a7⟩
    lawWord := ⟨f8, _, fun_mk (st := s_lawWord) l8 c8 k8, PySem.W.mg_of X G a8⟩
    lawState := ⟨f9, _, fun_mk (st := s_lawState) l9 c9 k9, PySem.W.mg_of X G a9⟩
    lawDeed := ⟨f10, _, fun_mk (st := s_lawDeed) l10 c10 k10, PySem.W.mg_of X G a10⟩
    lawSum := ⟨f11, _, fun_mk (st := s_lawSum) l11 c11 k11, PySem.W.mg_of X G a11⟩
    lawTurned := ⟨f12, _, fun_mk (st := s_lawTurned) l12 c12 k12, PySem.W.mg_of X G a12⟩
    lawShared := ⟨f13, _, fun_mk (st := s_lawShared) l13 c13 k13, PySem.W.mg_of X G a13⟩
    lawDue := ⟨f14, _, fun_mk (st := s_lawDue) l14 c14 k14, PySem.W.mg_of X G a14⟩
    lawIsRight := ⟨f15, _, fun_mk (st := s_lawIsRight) l15 c15 k15, PySem.W.mg_of X G a15⟩
    law := ⟨fa, _, fun_mk (st := s_law) l16 c16 k16, PySem.W.mg_of X G a16⟩
    n_abs := PySem.W.mg_none_of X G z_abs
    n_int := PySem.W.mg_none_of X G z_int
    n_len := PySem.W.mg_none_of X G z_len
    n_list := PySem.W.mg_none_of X G z_list
    n_max := PySem.W.mg_none_of X G z_max
    n_min := PySem.W.mg_none_of X G z_min
    n_range := PySem.W.mg_none_of X G z_range
    n_repr := PySem.W.mg_none_of X G z_repr
    n_tuple := PySem.W.mg_none_of X G z_tuple
  }
  exact ⟨_, fun s v => .of_eq rfl, fun base _ _ => ok_law T⟩
end K05
open PySem PySem.W PyProof.Rows
set_option maxHeartbeats 0 in
theorem PySem.Challenge.cw_homewords_k05_whole_deeds_done_and_undon_holds : PySem.Challenge.rw_homewords_k05_whole_deeds_done_and_undon.Holds := by
  w_on; o_law; k_head; (case hw => w_witness2)
  k_fill
  refine HW.walk_ofG (l := PySem.Challenge.rw_homewords_k05_whole_deeds_done_and_undon) (n := 63) (k := 5) (x := "script") (CX := fun _ => L2.CX0) (sp := fun w => HW.Spec _ (HW.S_lawG _)) rfl (by decide) rfl ⟨rfl, by decide, by decide⟩ (fun w h Y => PySem.W.kIn_of Y) ?F (fun _ H a ns hl ho hS => HW.law_startG hl hS) (fun _ _ _ _ _ h => h)
  case F =>
    intro w mg fa h KX G hmg
    refine' K05.all_mk KX G hmg ?a0 ?l0 ?c0 ?k0 ?a1 ?l1 ?c1 ?k1 ?a2 ?l2 ?c2 ?k2 ?a3 ?l3 ?c3 ?k3 ?a4 ?l4 ?c4 ?k4 ?a5 ?l5 ?c5 ?k5 ?a6 ?l6 ?c6 ?k6 ?a7 ?l7 ?c7 ?k7 ?a8 ?l8 ?c8 ?k8 ?a9 ?l9 ?c9 ?k9 ?a10 ?l10 ?c10 ?k10 ?a11 ?l11 ?c11 ?k11 ?a12 ?l12 ?c12 ?k12 ?a13 ?l13 ?c13 ?k13 ?a14 ?l14 ?c14 ?k14 ?a15 ?l15 ?c15 ?k15 ?a16 ?l16 ?c16 ?k16 ?z_abs ?z_int ?z_len ?z_list ?z_max ?z_min ?z_range ?z_repr ?z_tuple
    (case a0 => k_is); (case l0 => k_is); (case c0 => k_is); (case k0 => k_is); (case a1 => k_is); (case l1 => k_is); (case c1 => k_is); (case k1 => k_is); (case a2 => k_is); (case l2 => k_is); (case c2 => k_is); (case k2 => k_is); (case a3 => k_is); (case l3 => k_is); (case c3 => k_is); (case k3 => k_is); (case a4 => k_is); (case l4 => k_is); (case c4 => k_is); (case k4 => k_is); (case a5 => k_is); (case l5 => k_is); (case c5 => k_is); (case k5 => k_is); (case a6 => k_is); (case l6 => k_is); (case c6 => k_is); (case k6 => k_is); (case a7 => k_is); (case l7 => k_is); (case c7 => k_is); (case k7 => k_is); (case a8 => k_is); (case l8 => k_is); (case c8 => k_is); (case k8 => k_is); (case a9 => k_is); (case l9 => k_is); (case c9 => k_is); (case k9 => k_is); (case a10 => k_is); (case l10 => k_is); (case c10 => k_is); (case k10 => k_is); (case a11 => k_is); (case l11 => k_is); (case c11 => k_is); (case k11 => k_is); (case a12 => k_is); (case l12 => k_is); (case c12 => k_is); (case k12 => k_is); (case a13 => k_is); (case l13 => k_is); (case c13 => k_is); (case k13 => k_is); (case a14 => k_is); (case l14 => k_is); (case c14 => k_is); (case k14 => k_is); (case a15 => k_is); (case l15 => k_is); (case c15 => k_is); (case k15 => k_is); (case a16 => k_is); (case l16 => k_is); (case c16 => k_is); (case k16 => k_is); (case z_abs => k_is); (case z_int => k_is); (case z_len => k_is); (case z_list => k_is); (case z_max => k_is); (case z_min => k_is); (case z_range => k_is); (case z_repr => k_is); (case z_tuple => k_is)
