import PyProof.Rows.All
import Wide.All
import OpenK.AllK
import Wide.FinOn
import HandS.ForMost
import HandS.Conv
import HandS.TupAny
import HandS.Zip
import HandS.Wide
import HandS.WideBits
import HandS.More
import HandS.Lambda
import KE.KeyNested
import HandS.TupMul
import HandS.RaiseMore
import KE.GoesEnum
import HandS.Style
import HandS.RevRange
import HandS.Deep
import HandS.NoneIn
import HandS.Exc
import HandS.ExcInit
import HandS.ExcIs
import HandS.WordsExc
import KE.KSuper
import KE.KExcSuper
import KE.SortKeyHeap
import KE.KSortKey
import HandS.EndTab
import HandS.Gcd
import KE.KMathGC
import KE.KDictKeyed
import HandS.SortInts
import HandS.IsInst
import HandS.Dict
import PyProof.Rows.SetFrom
import HandS.TupSets
import KE.SortData
import HandS.TupLe
import HandS.Nested
import HandS.New
import HandS.Iter
import KE.RegKIsAll
import PySem.Challenge.RW_homewords_k08_whole_states_alike_below_l
set_option Elab.async false
set_option linter.all false
set_option maxRecDepth 100000
set_option maxHeartbeats 400000
/-! Own layer, part A: defs that are called where nothing is being shown (guards known to be none), so that repr of data may be asked in them. -/
namespace HW
open PySem PySem.Spec PyProof.Rows L2

/-- a def's promise, for callers around which nothing is being shown -/
structure FnG (P : Program) (w : World) (K : PySem.W.Frag) (mg : Str → Option Value) (base : Heap) (CX : CXT) (k : Nat) (f : Addr) (fd : FuncData) (ps : List Str) (sp : Sp) : Prop where
  len : ∀ vs H Q E, sp vs H Q E → vs.length = ps.length
  run : ∀ (A : Around) (outer : List Env) (s : Shared) (H : Hp) (args : Args) (us : List Value) (vs : List V) (Q : VK) (E : XK), Room k A → A.guards = some [] → Env0 P w K mg base A outer s H →
    BindsTo s fd args (ps.zip us) → Vals vs us → sp vs H Q E → codeAny (model P w) A (.call (.ref f) args) (CR CX outer P w H s Q E) s

section
variable {P : Program} {w : World} {K : PySem.W.Frag} {mg : Str → Option Value} {base : Heap} {CX : CXT} {k j : Nat} {f : Addr} {fd : FuncData} {ps : List Str} {sp sp' : Sp}
theorem FnG.of (F : FnOk P w K mg base CX k f fd ps sp) : FnG P w K mg base CX k f fd ps sp :=
  ⟨F.len, fun A o s H ar us vs Q E r _ e b v h => F.run A o s H ar us vs Q E r e b v h⟩
theorem FnG.mono (F : FnG P w K mg base CX j f fd ps sp) (h : j ≤ k) : FnG P w K mg base CX k f fd ps sp :=
  ⟨F.len, fun A o s H ar us vs Q E r g e b v q => F.run A o s H ar us vs Q E (r.mono h) g e b v q⟩
theorem FnG.imp (F : FnG P w K mg base CX k f fd ps sp) (h : ∀ vs H Q E, sp' vs H Q E → sp vs H Q E) : FnG P w K mg base CX k f fd ps sp' :=
  ⟨fun vs H Q E q => F.len vs H Q E (h _ _ _ _ q), fun A o s H ar us vs Q E r g e b v q => F.run A o s H ar us vs Q E r g e b v (h _ _ _ _ q)⟩

/-- a def of the text, by its body -/
theorem fnG_of {name qual : Str} {params : Arguments} {body : List Stmt} {scope : Scope} {dV kV doc pm cdv ct oc : Value} {an od : Option Addr} {osl : Array (Option Value)} {N : List Str}
    (lk : K.lookup f = some ⟨oc, od, .func (PySem.W.fnOf name qual params body scope dV kV doc pm an cdv ct), osl⟩) (cd : PySem.W.codeIn K cdv qual = true) (S : FnScope N ps scope)
    (len : ∀ vs H Q E, sp vs H Q E → vs.length = ps.length)
    (go : ∀ (A : Around) (outer : List Env) (s : Shared) (H : Hp) (vs : List V) (Q : VK) (E : XK), Room k (A.deeper (envOfC qual scope s.heap.objs.size f cdv)) → A.guards = some [] → sp vs H Q E →
      ∃ t, PSs (cxOf CX P w K mg base N qual scope f cdv A outer s H E) body t ∧ t { nx := fun _ H1 => Q .non H1, rt := Q } (start N vs) H) :
    FnG P w K mg base CX (k + 1) f (PySem.W.fnOf name qual params body scope dV kV doc pm an cdv ct) ps sp := by
  constructor
  · exact len
  intro A outer s H args us vs Q E room gd en bnd rel asked
  have ln := len vs H Q E asked
  have inK : K.In s.heap := en.mod.kin.keeps (fun b o e => And.left (en.bs b o e))
  have noL : s.heap.NoLimit := en.mod.nolimit.keeps (fun b o e => And.left (en.bs b o e))
  refine codeAny_call_function room.depth (inK f _ lk) rfl S.co S.gen rfl (PySem.W.codeRec_of inK cd) (bnd _ _ _ _ ?_)
  have kinds : ∀ y ∈ ps.zip us, scope.names.lookup y.1 = some .local ∨ (scope.names.lookup y.1 = some .cell ∧ Option.isSome ((cellsFrom (s.heap.objs.size + 1) scope.names []).lookup y.1) = true) := by
    rintro ⟨nm, u⟩ hm
    cases S.par nm (List.of_mem_zip hm).1 with
    | inl q => exact Or.inl q
    | inr q => exact Or.inr (And.intro q (PySem.W.cellsFrom_some _ _ _ (Or.inl q)))
  refine wpAny_newFunctionEnv_cells S.kind kinds (fun env same s1 x => ?_)
  subst same
  refine And.intro (noL.keeps x.toInCall.keep) (codeAny_func ?_)
  obtain ⟨t, runs, reads⟩ := go A outer s H vs Q E (Room.deeper room _) gd asked
  have I := inv_start (CX := CX) (E := E) S room.hd en ln rel x
  refine wpAny_mono (runs.run [] s1 (start N vs) H _ I reads) ?_ (fun e s' h => h)
  intro fl s' got
  have close : ∀ (σ1 : L2.St) (H1 : Hp) (v : V) (u : Value), Inv (cxOf CX P w K mg base N qual scope f cdv A outer s H E) [] σ1 H1 s' → RelV v u → Q v H1 → CE outer P w H s Q u s' :=
    fun σ1 H1 v u J rv q => Exists.intro v (Exists.intro H1 (And.intro J.os (And.intro J.bare (And.intro J.base (And.intro J.hok (And.intro rv q))))))
  match fl, got with
  | .ret u, ⟨v, σ1, H1, J, rv, q⟩ => exact close σ1 H1 v u J rv q
  | .next, ⟨σ1, H1, J, q⟩ => exact close σ1 H1 V.non Value.none J rfl q
  | .brk, ⟨_, _, _, q⟩ => exact q.elim
  | .cont, ⟨_, _, _, q⟩ => exact q.elim

theorem fun_okG {x qual : Str} {st : Stmt} {N : List Str} (F : Fun K x qual st f fd) (S : FnScope N ps (defScope st)) (len : ∀ vs H Q E, sp vs H Q E → vs.length = ps.length)
    (go : ∀ (cdv : Value) (A : Around) (outer : List Env) (s : Shared) (H : Hp) (vs : List V) (Q : VK) (E : XK), Room k (A.deeper (envOfC qual (defScope st) s.heap.objs.size f cdv)) → A.guards = some [] → sp vs H Q E →
      ∃ t, PSs (cxOf CX P w K mg base N qual (defScope st) f cdv A outer s H E) (defBody st) t ∧ t { nx := fun _ H1 => Q .non H1, rt := Q } (start N vs) H) : FnG P w K mg base CX (k + 1) f fd ps sp := by
  obtain ⟨oc, od, kV, doc, pm, an, cdv, ct, osl, same, lk, cd⟩ := F.ex
  subst same
  exact fnG_of lk cd S len (fun A outer s H vs Q E room gd asked => go cdv A outer s H vs Q E room gd asked)
end

section
variable {X : Cx} {CX : CXT} {k : Nat} {f : Addr} {fd : FuncData} {ps : List Str} {sp : Sp} {dvs : List V} {ds : List Value} {E : XK} {x : Str} {p pos : Pos} {e : Expr} {es : List Expr} {t tk : TA}
theorem CR.fin {pins : List (Addr × Obj)} {σ : L2.St} {H : Hp} {s s' : Shared} {Q : VK} {r : Result} (I : Inv X pins σ H s) (hx : Passes CX X E) (h : CR CX X.stack X.prog X.w H s Q E r s') :
    (match (r : Result) with
      | .ok (.ret u) => EP X pins σ Q u s'
      | .ok _ => False
      | .error e => X.xe e s') := by
  match r, h with
  | .error e, h => exact hx pins σ H s e s' I h
  | .ok (.ret u), h => exact I.after h
theorem fnG_run {pins : List (Addr × Obj)} {σ : L2.St} {H : Hp} {s : Shared} {Q : VK} {us : List Value} {vs : List V} (F : FnG X.prog X.w X.K X.mg X.base CX k f fd ps sp) (hr : Room k X.A) (gd : X.A.guards = some []) (hb : Binds X.K fd ps ds) (hd : Vals dvs ds) (hx : Passes CX X E)
    (I : Inv X pins σ H s) (r : Vals vs us) (h : sp (vs ++ dvs) H Q E) : wpAny (model X.prog X.w) X.A (call (.ref f) us) (EP X pins σ Q) X.xe s := by
  have both : Vals (vs ++ dvs) (us ++ ds) := Vals.append r hd
  have ln : (us ++ ds).length = ps.length := both.length.symm.trans (F.len _ _ _ _ h)
  have ran := F.run X.A X.stack s H { pos := us, kw := [] } (us ++ ds) (vs ++ dvs) Q E hr gd I.env0 (hb s us I.kIn ln) both h
  refine wpAny_call (codeAny_mono ran fun res s' q => ?_)
  match res, q with
  | .error e, q => exact hx pins σ H s e s' I q
  | .ok (.ret u), q => exact I.after q
theorem pe_callG (F : FnG X.prog X.w X.K X.mg X.base CX k f fd ps sp) (hr : Room k X.A) (gd : X.A.guards = some []) (hg : Gl X x) (hm : X.mg x = some (.ref f)) (hk : PySem.W.keepIn X.K (.ref f) = true) (hb : Binds X.K fd ps ds) (hd : Vals dvs ds) (hx : Passes CX X E)
    (ha : PA X (e :: es) t) (hdb : (x == ("__debug__" : Str)) = false := by decide) (he : starEach (e :: es) X.env = (false, eval e X.env) :: starEach es X.env := by rfl) (hpl : (backTo pos (starEach es X.env)).any (·.1) = false := by rfl) :
    PE X (.Call (.Name x p) (e :: es) [] pos) (tCall sp dvs E t) := by
  constructor
  intro pins s σ H Q I h
  refine wpAny_Call_Name_kw (ld_glob I hg hm ?_ hdb)
  have args := thn (ha.run pos pins s σ H _ I h) (Q' := fun us s1 => X.K.In s1.heap ∧ wpAny (model X.prog X.w) X.A (call (.ref f) us) (EP X pins σ Q) X.xe s1) fun us s1 q => by
    obtain ⟨vs, H1, I1, r, q1⟩ := q
    exact And.intro I1.kIn (fnG_run F hr gd hb hd hx I1 r q1)
  exact PySem.W.callWith_K (h₀ := X.base) I.ok.mod.kin hk args he hpl
theorem pe_callG0 (F : FnG X.prog X.w X.K X.mg X.base CX k f fd ps sp) (hr : Room k X.A) (gd : X.A.guards = some []) (hg : Gl X x) (hm : X.mg x = some (.ref f)) (hk : PySem.W.keepIn X.K (.ref f) = true) (hb : Binds X.K fd ps ds) (hd : Vals dvs ds) (hx : Passes CX X E)
    (hdb : (x == ("__debug__" : Str)) = false := by decide) : PE X (.Call (.Name x p) [] [] pos) (tCall sp dvs E tNil) := by
  constructor
  intro pins s σ H Q I h
  refine wpAny_Call_Name_kw (ld_glob I hg hm ?_ hdb)
  exact PySem.W.callWith_K0 I.kIn hk (fnG_run (us := []) F hr gd hb hd hx I .nil h)
/-- f(k = v, ..): keywords alone -/
theorem fnG_runK {pins : List (Addr × Obj)} {σ : L2.St} {H : Hp} {s : Shared} {Q : VK} {ks : List Str} {us ws : List Value} {vs zs : List V} {g : List Value → List Value → List Value} {gV : List V → List V → List V}
    (F : FnG X.prog X.w X.K X.mg X.base CX k f fd ps sp) (hr : Room k X.A) (gd : X.A.guards = some []) (hb : KBinds X.K fd ps ks g gV) (hx : Passes CX X E) (I : Inv X pins σ H s) (r : Vals vs us) (rz : Vals zs ws) (h : sp (gV vs zs) H Q E) :
    wpAny (model X.prog X.w) X.A (call (.ref f) us (ks.zip ws)) (EP X pins σ Q) X.xe s := by
  have both := hb.rel r rz
  have ln : (g us ws).length = ps.length := both.length.symm.trans (F.len _ _ _ _ h)
  have ran := F.run X.A X.stack s H { pos := us, kw := ks.zip ws } (g us ws) (gV vs zs) Q E hr gd I.env0 (hb.to s us ws I.kIn ln) both h
  refine wpAny_call (codeAny_mono ran fun res s' q => ?_)
  match res, q with
  | .error e, q => exact hx pins σ H s e s' I q
  | .ok (.ret u), q => exact I.after q
theorem pe_callGK0 {ks : List Str} {kws : List Keyword} {g : List Value → List Value → List Value} {gV : List V → List V → List V} (F : FnG X.prog X.w X.K X.mg X.base CX k f fd ps sp) (hr : Room k X.A) (gd : X.A.guards = some []) (hg : Gl X x) (hm : X.mg x = some (.ref f))
    (hk : PySem.W.keepIn X.K (.ref f) = true) (hb : KBinds X.K fd ps ks g gV) (hx : Passes CX X E) (hkw : PK X kws tk) (hall : (backToKw pos (keywordEach kws X.env)).all (·.1.isSome) = true := by rfl) (hks : (backToKw pos (keywordEach kws X.env)).filterMap (·.1) = ks := by rfl)
    (hdb : (x == ("__debug__" : Str)) = false := by decide) (hpl : ((backTo pos (starEach [] X.env)).any (·.1) || (backToKw pos (keywordEach kws X.env)).any (·.1.isNone)) = false := by rfl) : PE X (.Call (.Name x p) [] kws pos) (tCallK sp gV E tNil tk) := by
  constructor
  intro pins s σ H Q I h
  refine wpAny_Call_Name_kw (ld_glob I hg hm ?_ hdb)
  refine PySem.W.callWith_KW0 (h₀ := X.base) I.ok.mod.kin hk hall ?_ hpl
  refine thn (hkw.run pos pins s σ H _ I h) fun ws s1 q => ?_
  obtain ⟨zs, H1, I1, rz, q1⟩ := q
  rw [hks]
  exact And.intro I1.kIn (fnG_runK (us := []) F hr gd hb hx I1 .nil rz q1)
theorem pe_callGK {ks : List Str} {kws : List Keyword} {g : List Value → List Value → List Value} {gV : List V → List V → List V} (F : FnG X.prog X.w X.K X.mg X.base CX k f fd ps sp) (hr : Room k X.A) (gd : X.A.guards = some []) (hg : Gl X x) (hm : X.mg x = some (.ref f))
    (hk : PySem.W.keepIn X.K (.ref f) = true) (hb : KBinds X.K fd ps ks g gV) (hx : Passes CX X E) (ha : PA X (e :: es) t) (hkw : PK X kws tk) (hall : (backToKw pos (keywordEach kws X.env)).all (·.1.isSome) = true := by rfl) (hks : (backToKw pos (keywordEach kws X.env)).filterMap (·.1) = ks := by rfl)
    (hdb : (x == ("__debug__" : Str)) = false := by decide) (he : starEach (e :: es) X.env = (false, eval e X.env) :: starEach es X.env := by rfl)
    (hpl : ((backTo pos (starEach (e :: es) X.env)).any (·.1) || (backToKw pos (keywordEach kws X.env)).any (·.1.isNone)) = false := by rfl) : PE X (.Call (.Name x p) (e :: es) kws pos) (tCallK sp gV E t tk) := by
  constructor
  intro pins s σ H Q I h
  refine wpAny_Call_Name_kw (ld_glob I hg hm ?_ hdb)
  refine PySem.W.callWith_KW (h₀ := X.base) I.ok.mod.kin hk hall ?_ hpl he
  refine thn (ha.run pos pins s σ H _ I h) fun us s1 q => ?_
  obtain ⟨vs, H1, I1, r, q1⟩ := q
  refine thn (hkw.run pos pins s1 σ H1 _ I1 q1) fun ws s2 q => ?_
  obtain ⟨zs, H2, I2, rz, q2⟩ := q
  rw [hks]
  exact And.intro I2.kIn (fnG_runK F hr gd hb hx I2 r rz q2)
end

/-! ### the law's own call -/
section
variable {P : Program} {w : World} {K : PySem.W.Frag} {mg mb : Str → Option Value} {CX : CXT} {k : Nat} {fa a : Addr} {fd : FuncData} {x : Str} {sp : Sp} {s1 : Shared} {vs : List Value} {ns : List Int}
/-- from one abstract heap in which at most the script is tracked -/
theorem law_from {H : Hp} (KX : K.In s1.heap) (hns : s1.heap.Ns mainGlobals mg) (hb : s1.heap.Ns builtinsNs mb) (hbb : ∀ x : Str, x ≠ "__name__" → mb x = bootBuiltins x) (hlim : s1.heap.NoLimit) (hg : s1.gens = #[])
    (ha : s1.heap.get? a = some { cls := .type "list", data := .seq vs.toArray }) (hr : Room k callerA)
    (F : ∀ base : Heap, K.In base → base.Ns mainGlobals mg → FnG P w K mg base CX k fa fd [x] sp) (hbind : ∀ (s : Shared) (u : Value), BindsTo s fd ⟨[u], []⟩ [(x, u)])
    (hsp : sp [.ref a] H (fun v _ => v = .bl true) fun _ _ _ => False) (hCX : ∀ e s', CX [] H s1 (fun _ _ _ => False) e s' → False)
    (only : Only H) (hok : HOk P w H s1.heap) (one : ∀ b, H b ≠ none → b = a) (out : H a ≠ none → K.lookup a = none) :
    codeAny (model P w) callerA (.call (.ref fa) ⟨[.ref a], []⟩) (fun r s' => r = .ok (.ret (.bool true)) ∧ OldK s1.heap s'.heap ∧ s'.os = s1.os ∧ AllBare s'.gens) s1 := by
  have free : ∀ {b : Addr} {o : Obj} {es : Array DictEntry} {ep : Nat}, s1.heap.get? b = some o → o.data = .dict es ep → H b = none := by
    intro b o es ep eo ed
    match hH : H b with
    | none => rfl
    | some u =>
      have same := one b (fun z => by rw [z] at hH; cases hH)
      rw [same, ha] at eo
      rw [← Option.some.inj eo] at ed
      exact nomatch ed
  have ns : ∀ {b : Addr} {m : Str → Option Value}, s1.heap.Ns b m → (hidT s1.heap H).Ns b m := by
    rintro b m ⟨o, es, ep, eo, ed, more⟩
    exact Exists.intro o (Exists.intro es (Exists.intro ep (And.intro (hidT_get eo (free eo ed)) (And.intro ed more))))
  have kin : K.In (hidT s1.heap H) := by
    intro b o lk
    refine hidT_get (KX b o lk) ?_
    match hH : H b with
    | none => rfl
    | some u =>
      have ne : H b ≠ none := fun z => by rw [z] at hH; cases hH
      have same := one b ne
      have gone := out (same ▸ ne)
      rw [← same, lk] at gone
      cases gone
  have mod : Mod K mg (hidT s1.heap H) := by
    obtain ⟨mc, l1, l2⟩ := hlim
    exact { kin := kin, glob := ns hns, blt := Exists.intro mb (And.intro (ns hb) hbb), nolimit := Exists.intro mc (And.intro (ns l1) l2) }
  have en : Env0 P w K mg (hidT s1.heap H) callerA [] s1 H :=
    { frames := rfl, mod := mod, bs := fun b o q => of_hidT q, bsz := Nat.le_of_eq (hidT_size _ _), funs := trivial, frf := fun b q => absurd q List.not_mem_nil, hok := hok, bare := AllBare.of_eq hg }
  refine codeAny_mono ((F _ kin (ns hns)).run callerA [] s1 H { pos := [.ref a], kw := [] } [.ref a] [.ref a] _ _ hr rfl en (hbind s1 (.ref a)) (.cons rfl .nil) hsp) ?_
  intro r s' got
  match r, got with
  | .error e, got => exact (hCX e s' got).elim
  | .ok (.ret u), ⟨v, H1, os, bare, un, hok1, rel, isT⟩ =>
    subst isT
    have isT' : u = Value.bool true := rel
    subst isT'
    refine And.intro rfl (And.intro (OldK.of_keep ?_) (And.intro os bare))
    intro b o eo
    match hH : H b with
    | none => exact un.keep b o eo hH (fun z => absurd z List.not_mem_nil) List.not_mem_nil
    | some u =>
      match only b with
      | .inl z => rw [z] at hH; cases hH
      | .inr ⟨ob, xs, z⟩ =>
        have was := (hok b _ z).1
        have is := (hok1 b _ (un.frzs b ob _ z)).1
        rw [eo] at was
        rw [is, ← was]
theorem law_callG (KX : K.In s1.heap) (hns : s1.heap.Ns mainGlobals mg) (hb : s1.heap.Ns builtinsNs mb) (hbb : ∀ x : Str, x ≠ "__name__" → mb x = bootBuiltins x) (hlim : s1.heap.NoLimit) (hg : s1.gens = #[])
    (ha : s1.heap.get? a = some { cls := .type "list", data := .seq vs.toArray }) (hi : IntsAre vs ns) (hl : ns.length ≤ sizeLine) (hr : Room k callerA)
    (F : ∀ base : Heap, K.In base → base.Ns mainGlobals mg → FnG P w K mg base CX k fa fd [x] sp) (hbind : ∀ (s : Shared) (u : Value), BindsTo s fd ⟨[u], []⟩ [(x, u)])
    (hsp : ∀ H : Hp, Only H → SqL K H a (ns.map V.int) → sp [.ref a] H (fun v _ => v = .bl true) fun _ _ _ => False) (hCX : ∀ H e s', CX [] H s1 (fun _ _ _ => False) e s' → False) :
    codeAny (model P w) callerA (.call (.ref fa) ⟨[.ref a], []⟩) (fun r s' => r = .ok (.ret (.bool true)) ∧ OldK s1.heap s'.heap ∧ s'.os = s1.os ∧ AllBare s'.gens) s1 := by
  have rel := vals_ints hi
  have size := hi.length
  match hk : K.lookup a with
  | some o =>
    have same := KX a o hk
    rw [ha] at same
    have same := Option.some.inj same
    subst same
    have only : Only (fun _ => none) := fun _ => .inl rfl
    refine law_from (H := fun _ => none) KX hns hb hbb hlim hg ha hr F hbind (hsp _ only (.inr ?_)) (hCX _) only (fun b u z => nomatch z) (fun b z => absurd rfl z) (fun z => absurd rfl z)
    refine ⟨_, vs.toArray, _, hk, rfl, rfl, rfl, ?_, by simpa using rel⟩
    rw [List.size_toArray, size]
    exact hl
  | none =>
    have here : (fun b => if b = a then some (HO.frz { cls := .type "list", data := .seq vs.toArray } (.lst (ns.map V.int))) else none : Hp) a = some (HO.frz { cls := .type "list", data := .seq vs.toArray } (.lst (ns.map V.int))) := if_pos rfl
    have else_ : ∀ b, b ≠ a → (fun b => if b = a then some (HO.frz { cls := .type "list", data := .seq vs.toArray } (.lst (ns.map V.int))) else none : Hp) b = none := fun b hb => if_neg hb
    have only : Only (fun b => if b = a then some (.frz { cls := .type "list", data := .seq vs.toArray } (.lst (ns.map V.int))) else none) := by
      intro b
      by_cases hb : b = a
      · subst hb
        exact .inr ⟨_, _, here⟩
      · exact .inl (else_ b hb)
    refine law_from KX hns hb hbb hlim hg ha hr F hbind (hsp _ only (.inl (.inr ⟨_, here⟩))) (hCX _) only ?_ ?_ (fun _ => hk)
    · intro b u z
      by_cases hb : b = a
      · subst hb
        have z2 := here.symm.trans z
        cases z2
        exact And.intro ha (And.intro (by rw [List.length_map]; exact hl) ⟨vs, _, rel, ha⟩)
      · exact nomatch (else_ b hb).symm.trans z
    · intro b z
      by_cases hb : b = a
      · exact hb
      · exact absurd (else_ b hb) z
end

/-- what k_head leaves, from the law's promise -/
theorem walk_ofG {l : PySem.W.OpenLaw} {n k : Nat} {q : Program} {loose : List Str} {XP : (Str → Option Value) → Heap → Prop} {YP : World → Heap → Prop} {d : DefRec} {K : Params → PySem.W.Frag} {CX : World → CXT} {sp : World → Sp} {x : Str}
    (hn : l.most = some n) (hn2 : n ≤ sizeLine) (hdf : d.params.defaults = []) (hr : Room k callerA) (hY : ∀ (w : World) (h : Heap), YP w h → (K w.params).In h)
    (F : ∀ (w : World) (mg : Str → Option Value) (fa : Addr) (h : Heap), (K w.params).In h → h.Ns mainGlobals mg → mg d.name = some (.ref fa) →
      ∃ fd : FuncData, (∀ (s : Shared) (u : Value), BindsTo s fd ⟨[u], []⟩ [(x, u)]) ∧ ∀ base : Heap, (K w.params).In base → base.Ns mainGlobals mg → FnG l.prog w (K w.params) mg base (CX w) k fa fd [x] (sp w))
    (hsp : ∀ (w : World) (H : Hp) (a : Addr) (ns : List Int), ns.length ≤ n → Only H → SqL (K w.params) H a (ns.map V.int) → sp w [.ref a] H (fun v _ => v = .bl true) fun _ _ _ => False)
    (hCX : ∀ (w : World) (H : Hp) (s : Shared) (e : Value) (s' : Shared), CX w [] H s (fun _ _ _ => False) e s' → False) : PySem.W.WalkO q loose XP YP l.row.toRowW d [] (fun f vs => PySem.call f vs) := by
  refine Att.attach_call hn hdf ?_
  intro w s0 s1 mg mb fa o pm cd doc a vs ns G Y ho hd hcd hmg hobj hints hlen hg
  have kin := hY w _ Y
  obtain ⟨fd, bnd, F1⟩ := F w mg fa _ kin G.T.g hmg
  exact law_callG kin G.T.g G.T.b G.T.builtins G.T.nolimit hg hobj hints (Nat.le_trans hlen hn2) hr F1 bnd (fun H only sq => hsp w H a ns hlen only sq) (fun H e s' => hCX w H s1 e s')
end HW
/-! Own layer, part B: what values stand for, states as lists of what stands in the slots, expressions. G: the part of the heap that no one changes any more. -/
namespace HW
open PySem PySem.Spec PyProof.Rows L2

/-- what a value stands for: data; an object at a place; anything that stays so -/
inductive Ab where
  | d (x : PyData)
  | at (p : Addr)
  | raw (P : V → Hp → Prop)
abbrev aI (i : Int) : Ab := .d (.int i)
abbrev aB (b : Bool) : Ab := .d (.bool b)
abbrev aS (s : Str) : Ab := .d (.str s)
abbrev aN : Ab := .d .none
abbrev aL (ds : List PyData) : Ab := .d (.list ds)
abbrev aT (ds : List PyData) : Ab := .d (.tuple ds)
abbrev Is (a : Ab) : Ab → Prop := fun x => x = a

theorem rd_same {G G' : Hp} (e : Same G G') {a : Addr} {u : HO} (h : Rd G a u) : Rd G' a u := by
  rcases h with h | ⟨o, h⟩
  · exact .inl (e _ _ h)
  · exact .inr ⟨o, e _ _ h⟩
theorem sqL_same {K : PySem.W.Frag} {G G' : Hp} (e : Same G G') {a : Addr} {xs : List V} (h : SqL K G a xs) : SqL K G' a xs := by
  rcases h with h | h
  · exact .inl (rd_same e h)
  · exact .inr h
theorem sqT_same {K : PySem.W.Frag} {G G' : Hp} (e : Same G G') {a : Addr} {xs : List V} (h : SqT K G a xs) : SqT K G' a xs := by
  rcases h with h | h
  · exact .inl (rd_same e h)
  · exact .inr h
/-! data that a value is, its lists made by the program (tracked), its tuples of any make -/
mutual
inductive Dp (K : PySem.W.Frag) (G : Hp) : V → PyData → Prop
  | non : Dp K G .non .none
  | bl (b : Bool) : Dp K G (.bl b) (.bool b)
  | int (i : Int) : Dp K G (.int i) (.int i)
  | str (x : Str) : Dp K G (.str x) (.str x)
  | lst {a : Addr} {xs : List V} {ds : List PyData} : G a = some (.lst xs) → DpAll K G xs ds → Dp K G (.ref a) (.list ds)
  | tup {a : Addr} {xs : List V} {ds : List PyData} : SqT K G a xs → DpAll K G xs ds → Dp K G (.ref a) (.tuple ds)
inductive DpAll (K : PySem.W.Frag) (G : Hp) : List V → List PyData → Prop
  | nil : DpAll K G [] []
  | cons {v : V} {vs : List V} {d : PyData} {ds : List PyData} : Dp K G v d → DpAll K G vs ds → DpAll K G (v :: vs) (d :: ds)
end
mutual
theorem Dp.old {K : PySem.W.Frag} {G : Hp} : ∀ (d : PyData) (v : V), Dp K G v d → L2.Dp K G v d
  | .none, _, h => by cases h; exact .non
  | .bool _, _, h => by cases h; exact .bl _
  | .int _, _, h => by cases h; exact .int _
  | .str _, _, h => by cases h; exact .str _
  | .list ds, _, h => by
    cases h with
    | lst hs ha => exact .lst (.inl (.inl hs)) (DpAll.old ds _ ha)
  | .tuple ds, _, h => by
    cases h with
    | tup hs ha => exact .tup hs (DpAll.old ds _ ha)
  | .dict _, _, h => by cases h
theorem DpAll.old {K : PySem.W.Frag} {G : Hp} : ∀ (ds : List PyData) (vs : List V), DpAll K G vs ds → L2.DpAll K G vs ds
  | [], _, h => by cases h; exact .nil
  | d :: ds, _, h => by
    cases h with
    | cons h1 h2 => exact .cons (Dp.old d _ h1) (DpAll.old ds _ h2)
end
mutual
theorem dp_same {K : PySem.W.Frag} {G G' : Hp} (e : Same G G') : ∀ (d : PyData) (v : V), Dp K G v d → Dp K G' v d
  | .none, _, h => by cases h; exact .non
  | .bool _, _, h => by cases h; exact .bl _
  | .int _, _, h => by cases h; exact .int _
  | .str _, _, h => by cases h; exact .str _
  | .list ds, _, h => by
    cases h with
    | lst hs ha => exact .lst (e _ _ hs) (dpAll_same e ds _ ha)
  | .tuple ds, _, h => by
    cases h with
    | tup hs ha => exact .tup (sqT_same e hs) (dpAll_same e ds _ ha)
  | .dict _, _, h => by cases h
theorem dpAll_same {K : PySem.W.Frag} {G G' : Hp} (e : Same G G') : ∀ (ds : List PyData) (vs : List V), DpAll K G vs ds → DpAll K G' vs ds
  | [], _, h => by cases h; exact .nil
  | d :: ds, _, h => by
    cases h with
    | cons h1 h2 => exact .cons (dp_same e d _ h1) (dpAll_same e ds _ h2)
end

def Rep (K : PySem.W.Frag) (G : Hp) (v : V) : Ab → Prop
  | .d x => Dp K G v x
  | .at p => v = .ref p
  | .raw P => ∃ G0, Same G0 G ∧ P v G0
theorem Rep.same {K : PySem.W.Frag} {G G' : Hp} (e : Same G G') {v : V} : ∀ {a : Ab}, Rep K G v a → Rep K G' v a
  | .d _, h => dp_same e _ _ h
  | .at _, h => h
  | .raw _, ⟨G0, e0, h⟩ => ⟨G0, e0.trans e, h⟩
def RepAll (K : PySem.W.Frag) (G : Hp) : List V → List Ab → Prop
  | [], [] => True
  | v :: vs, a :: as => Rep K G v a ∧ RepAll K G vs as
  | _, _ => False
section
variable {K : PySem.W.Frag} {G G' : Hp}
theorem RepAll.same (e : Same G G') : ∀ {vs : List V} {as : List Ab}, RepAll K G vs as → RepAll K G' vs as
  | [], [], _ => trivial
  | _ :: _, _ :: _, h => ⟨h.1.same e, RepAll.same e h.2⟩
  | [], _ :: _, h => h.elim
  | _ :: _, [], h => h.elim
theorem RepAll.length : ∀ {vs : List V} {as : List Ab}, RepAll K G vs as → vs.length = as.length
  | [], [], _ => rfl
  | _ :: _, _ :: _, h => by rw [List.length_cons, List.length_cons, RepAll.length h.2]
  | [], _ :: _, h => h.elim
  | _ :: _, [], h => h.elim
theorem RepAll.get : ∀ {vs : List V} {as : List Ab} {i : Nat} {a : Ab}, RepAll K G vs as → as[i]? = some a → ∃ v, vs[i]? = some v ∧ Rep K G v a
  | [], [], _, _, _, e => by simp at e
  | v :: _, _ :: _, 0, _, h, e => by
    have e : _ = _ := Option.some.inj e
    exact ⟨v, rfl, e ▸ h.1⟩
  | _ :: _, _ :: _, i + 1, _, h, e => by
    obtain ⟨v, h1, h2⟩ := RepAll.get (i := i) h.2 (by simpa using e)
    exact ⟨v, by simpa using h1, h2⟩
  | [], _ :: _, _, _, h, _ => h.elim
  | _ :: _, [], _, _, h, _ => h.elim
theorem RepAll.get' : ∀ {vs : List V} {as : List Ab} {i : Nat} {v : V}, RepAll K G vs as → vs[i]? = some v → ∃ a, as[i]? = some a ∧ Rep K G v a
  | [], [], _, _, _, e => by simp at e
  | _ :: _, a :: _, 0, _, h, e => by
    have e : _ = _ := Option.some.inj e
    exact ⟨a, rfl, e ▸ h.1⟩
  | _ :: _, _ :: _, i + 1, _, h, e => by
    obtain ⟨v, h1, h2⟩ := RepAll.get' (i := i) h.2 (by simpa using e)
    exact ⟨v, by simpa using h1, h2⟩
  | [], _ :: _, _, _, h, _ => h.elim
  | _ :: _, [], _, _, h, _ => h.elim
theorem RepAll.append : ∀ {vs ws : List V} {as bs : List Ab}, RepAll K G vs as → RepAll K G ws bs → RepAll K G (vs ++ ws) (as ++ bs)
  | [], _, [], _, _, h => h
  | _ :: _, _, _ :: _, _, h, h2 => ⟨h.1, RepAll.append h.2 h2⟩
  | [], _, _ :: _, _, h, _ => h.elim
  | _ :: _, _, [], _, h, _ => h.elim
theorem RepAll.set {v : V} {a : Ab} (r : Rep K G v a) : ∀ {vs : List V} {as : List Ab} (i : Nat), RepAll K G vs as → RepAll K G (vs.set i v) (as.set i a)
  | [], [], _, _ => trivial
  | _ :: _, _ :: _, 0, h => ⟨r, h.2⟩
  | _ :: _, _ :: _, i + 1, h => ⟨h.1, RepAll.set r i h.2⟩
  | [], _ :: _, _, h => h.elim
  | _ :: _, [], _, h => h.elim
theorem RepAll.take : ∀ {vs : List V} {as : List Ab} (i : Nat), RepAll K G vs as → RepAll K G (vs.take i) (as.take i)
  | [], [], 0, _ => trivial
  | [], [], _ + 1, _ => trivial
  | _ :: _, _ :: _, 0, _ => trivial
  | _ :: _, _ :: _, i + 1, h => ⟨h.1, RepAll.take i h.2⟩
  | [], _ :: _, _, h => h.elim
  | _ :: _, [], _, h => h.elim
theorem RepAll.drop : ∀ {vs : List V} {as : List Ab} (i : Nat), RepAll K G vs as → RepAll K G (vs.drop i) (as.drop i)
  | [], [], 0, _ => trivial
  | [], [], _ + 1, _ => trivial
  | _ :: _, _ :: _, 0, h => h
  | _ :: _, _ :: _, i + 1, h => RepAll.drop i h.2
  | [], _ :: _, _, h => h.elim
  | _ :: _, [], _, h => h.elim
theorem RepAll.erase : ∀ {vs : List V} {as : List Ab} (i : Nat), RepAll K G vs as → RepAll K G (vs.eraseIdx i) (as.eraseIdx i)
  | [], [], _, _ => trivial
  | _ :: _, _ :: _, 0, h => h.2
  | _ :: _, _ :: _, i + 1, h => ⟨h.1, RepAll.erase i h.2⟩
  | [], _ :: _, _, h => h.elim
  | _ :: _, [], _, h => h.elim
theorem RepAll.reverse : ∀ {vs : List V} {as : List Ab}, RepAll K G vs as → RepAll K G vs.reverse as.reverse
  | [], [], _ => trivial
  | _ :: _, _ :: _, h => by
    rw [List.reverse_cons, List.reverse_cons]
    exact RepAll.append (RepAll.reverse h.2) ⟨h.1, trivial⟩
  | [], _ :: _, h => h.elim
  | _ :: _, [], h => h.elim
theorem RepAll.rep {vs : List V} {as : List Ab} (h : RepAll K G vs as) : ∀ k : Nat, RepAll K G (List.replicate k vs).flatten (List.replicate k as).flatten
  | 0 => trivial
  | k + 1 => by
    rw [List.replicate_succ, List.replicate_succ, List.flatten_cons, List.flatten_cons]
    exact RepAll.append h (RepAll.rep h k)
theorem repAll_dp : ∀ {vs : List V} {ds : List PyData}, RepAll K G vs (ds.map .d) ↔ DpAll K G vs ds
  | [], [] => ⟨fun _ => .nil, fun _ => trivial⟩
  | v :: vs, d :: ds => ⟨fun h => .cons h.1 (repAll_dp.mp h.2), fun h => by
      cases h with
      | cons h1 h2 => exact ⟨h1, repAll_dp.mpr h2⟩⟩
  | [], _ :: _ => ⟨fun h => h.elim, fun h => nomatch h⟩
  | _ :: _, [] => ⟨fun h => h.elim, fun h => nomatch h⟩
theorem repAll_ints : ∀ {vs : List V} {ns : List Int}, RepAll K G vs (ns.map aI) → vs = ns.map V.int
  | [], [], _ => rfl
  | v :: vs, n :: ns, h => by
    obtain ⟨h1, h2⟩ := h
    have h1 : Dp K G v (.int n) := h1
    cases h1
    rw [List.map_cons, repAll_ints h2]
  | [], _ :: _, h => h.elim
  | _ :: _, [], h => h.elim
theorem ints_repAll : ∀ (ns : List Int), RepAll K G (ns.map V.int) (ns.map aI)
  | [] => trivial
  | n :: ns => ⟨Dp.int n, ints_repAll ns⟩
end

/-! ### slots -/
def Loc (K : PySem.W.Frag) (G : Hp) : L2.St → List (Option Ab) → Prop
  | [], [] => True
  | _ :: σ, none :: ρ => Loc K G σ ρ
  | o :: σ, some a :: ρ => (∃ v, o = some v ∧ Rep K G v a) ∧ Loc K G σ ρ
  | _, _ => False
def wipeA (ρ : List (Option Ab)) : List Nat → List (Option Ab)
  | [] => ρ
  | v :: vs => (wipeA ρ vs).set v none
def startA (N : List Str) (as : List Ab) : List (Option Ab) := as.map some ++ List.replicate (N.length - as.length) none
section
variable {K : PySem.W.Frag} {G G' : Hp}
theorem Loc.same (e : Same G G') : ∀ {σ : L2.St} {ρ : List (Option Ab)}, Loc K G σ ρ → Loc K G' σ ρ
  | [], [], _ => trivial
  | _ :: σ, none :: ρ, h => Loc.same (σ := σ) (ρ := ρ) e h
  | _ :: _, some _ :: _, h => by
    obtain ⟨⟨v, e1, r⟩, h2⟩ := h
    exact ⟨⟨v, e1, r.same e⟩, Loc.same e h2⟩
  | [], _ :: _, h => by cases h
  | _ :: _, [], h => by cases h
theorem Loc.get : ∀ {σ : L2.St} {ρ : List (Option Ab)} {i : Nat} {a : Ab}, Loc K G σ ρ → ρ[i]? = some (some a) → ∃ v, σ[i]? = some (some v) ∧ Rep K G v a
  | [], [], _, _, _, e => by simp at e
  | o :: _, none :: _, 0, _, _, e => by simp at e
  | o :: _, some a :: _, 0, b, h, e => by
    obtain ⟨⟨v, e1, r⟩, _⟩ := h
    have e2 : a = b := by simpa using e
    subst e1 e2
    exact ⟨v, rfl, r⟩
  | _ :: σ, none :: ρ, i + 1, a, h, e => by
    obtain ⟨v, h1, h2⟩ := Loc.get (σ := σ) (ρ := ρ) (i := i) (a := a) h (by simpa using e)
    exact ⟨v, by simpa using h1, h2⟩
  | _ :: σ, some _ :: ρ, i + 1, a, h, e => by
    obtain ⟨v, h1, h2⟩ := Loc.get (σ := σ) (ρ := ρ) (i := i) (a := a) h.2 (by simpa using e)
    exact ⟨v, by simpa using h1, h2⟩
  | [], _ :: _, _, _, h, _ => by cases h
  | _ :: _, [], _, _, h, _ => by cases h
theorem Loc.set {v : V} {a : Ab} (r : Rep K G v a) : ∀ {σ : L2.St} {ρ : List (Option Ab)} (i : Nat), Loc K G σ ρ → Loc K G (σ.set i (some v)) (ρ.set i (some a))
  | [], [], _, _ => trivial
  | _ :: _, none :: _, 0, h => ⟨⟨v, rfl, r⟩, h⟩
  | _ :: _, some _ :: _, 0, h => ⟨⟨v, rfl, r⟩, h.2⟩
  | _ :: σ, none :: ρ, i + 1, h => Loc.set (σ := σ) (ρ := ρ) r i h
  | _ :: _, some _ :: _, i + 1, h => ⟨h.1, Loc.set r i h.2⟩
  | [], _ :: _, _, h => by cases h
  | _ :: _, [], _, h => by cases h
theorem Loc.setN : ∀ {σ : L2.St} {ρ : List (Option Ab)} (i : Nat), Loc K G σ ρ → Loc K G (σ.set i none) (ρ.set i none)
  | [], [], _, _ => trivial
  | _ :: _, none :: _, 0, h => h
  | _ :: _, some _ :: _, 0, h => h.2
  | _ :: σ, none :: ρ, i + 1, h => Loc.setN (σ := σ) (ρ := ρ) i h
  | _ :: _, some _ :: _, i + 1, h => ⟨h.1, Loc.setN i h.2⟩
  | [], _ :: _, _, h => by cases h
  | _ :: _, [], _, h => by cases h
theorem Loc.wipe {σ : L2.St} {ρ : List (Option Ab)} (h : Loc K G σ ρ) : ∀ vs : List Nat, Loc K G (L2.wipe σ vs) (wipeA ρ vs)
  | [] => h
  | v :: vs => Loc.setN v (Loc.wipe h vs)
theorem Loc.start : ∀ {vs : List V} {as : List Ab} (n : Nat), RepAll K G vs as → Loc K G (vs.map some ++ List.replicate n none) (as.map some ++ List.replicate n none)
  | [], [], 0, _ => trivial
  | [], [], n + 1, h => by
    rw [List.replicate_succ, List.replicate_succ]
    exact Loc.start (vs := []) (as := []) n trivial
  | v :: _, _ :: _, n, h => ⟨⟨v, rfl, h.1⟩, Loc.start n h.2⟩
  | [], _ :: _, _, h => h.elim
  | _ :: _, [], _, h => h.elim
theorem Loc.starts {N : List Str} {vs : List V} {as : List Ab} (h : RepAll K G vs as) : Loc K G (L2.start N vs) (startA N as) := by
  unfold L2.start startA
  rw [h.length]
  exact Loc.start _ h
end
theorem wipe_set {σ : L2.St} {i : Nat} {o : Option V} : ∀ {vs : List Nat}, i ∈ vs → L2.wipe (σ.set i o) vs = L2.wipe σ vs
  | [], h => by cases h
  | v :: vs, h => by
    show (L2.wipe (σ.set i o) vs).set v none = (L2.wipe σ vs).set v none
    by_cases hi : i ∈ vs
    · rw [wipe_set hi]
    · have e : i = v := by
        rcases List.mem_cons.mp h with e | e
        · exact e
        · exact absurd e hi
      subst e
      have out : ∀ {us : List Nat}, i ∉ us → L2.wipe (σ.set i o) us = (L2.wipe σ us).set i o := by
        intro us
        induction us with
        | nil => intro _; rfl
        | cons u us ih =>
          intro hn
          have h1 : i ≠ u := fun z => hn (z ▸ List.mem_cons_self)
          have h2 : i ∉ us := fun z => hn (List.mem_cons_of_mem _ z)
          show (L2.wipe (σ.set i o) us).set u none = ((L2.wipe σ us).set u none).set i o
          rw [ih h2, List.set_comm _ _ h1]
      rw [out hi, List.set_set]

/-! ### what may change -/
/-- a code object that the program's tables tell -/
def Cod (b : Addr) (o : HO) : Prop := ∃ q : Str, o = LamX.CodeO b q
/-- a heap with this object up to b -/
def hUp (b : Addr) (o : Obj) : Heap := { objs := Array.replicate (b + 1) o }
theorem hUp_get {b : Addr} {o : Obj} (ho : ∀ c d s, o ≠ ⟨c, d, .freed, s⟩) : (hUp b o).get? b = some o := by
  unfold Heap.get?
  have e : (hUp b o).objs[b]? = some o := by
    unfold hUp
    rw [Array.getElem?_replicate, if_pos (Nat.lt_succ_self b)]
  rw [e]
  split
  · rename_i h
    exact absurd (Option.some.inj h) (ho _ _ _)
  · rfl
theorem cod_ext {b : Addr} {φ : Heap → Prop} (h : Cod b (.ext φ)) : ∃ g : Heap, φ g ∧ ∃ o vs, g.get? b = some o ∧ o.data = .fields vs := by
  obtain ⟨q, e⟩ := h
  unfold LamX.CodeO at e
  injection e with e
  have o1 := hUp_get (b := b) (o := { cls := .none, data := .fields #[.none, .str q 0] }) (fun c d s z => nomatch congrArg Obj.data z)
  refine ⟨_, ?_, _, _, o1, rfl⟩
  rw [e]
  exact ⟨_, _, 0, o1, rfl, rfl⟩
/-- a resource that expressions may change: its places, what holds of the heap whatever they do -/
structure Rs where
  F : Addr → Prop
  I : Hp → Prop
  has : ∀ H b, I H → F b → ∃ o, H b = some o
  st : ∀ H H', I H → (∀ b o, F b ∨ Cod b o → H b = some o → H' b = some o) → I H'
def rs0 : Rs := ⟨fun _ => False, fun _ => True, fun _ _ _ h => h.elim, fun _ _ _ _ => trivial⟩
/-- keys: a number and a tuple of numbers -/
abbrev NK := Int × List Int
def nkey (k : NK) : PySem.NestedKey := .tup [.num k.1, .tup (k.2.map .num)]
def nkD (k : NK) : PyData := .tuple [.int k.1, .tuple (k.2.map .int)]
/-- a dict with such keys, which stand at the told places -/
def NdO (a : Addr) (xs : List (NK × Addr × V)) : HO := .ext fun h => ∃ ys : List (NK × Addr × Value), Paired (fun (p : NK × Addr × V) (q : NK × Addr × Value) => p.1 = q.1 ∧ p.2.1 = q.2.1 ∧ RelV p.2.2 q.2.2) xs ys ∧
  ∃ o es ep, h.get? a = some o ∧ o.ExactDict ∧ o.data = .dict es ep ∧ (∀ w : World, es.toList = ys.map fun x => ⟨(nkey x.1).hash w, .ref x.2.1, x.2.2⟩) ∧ (ys.map (·.1)).Nodup
/-- keys: tuples of numbers -/
abbrev FK := List Int
def fkey (k : FK) : PySem.NestedKey := .tup (k.map .num)
def fkD (k : FK) : PyData := .tuple (k.map .int)
def FdO (a : Addr) (xs : List (FK × Addr × V)) : HO := .ext fun h => ∃ ys : List (FK × Addr × Value), Paired (fun (p : FK × Addr × V) (q : FK × Addr × Value) => p.1 = q.1 ∧ p.2.1 = q.2.1 ∧ RelV p.2.2 q.2.2) xs ys ∧
  ∃ o es ep, h.get? a = some o ∧ o.ExactDict ∧ o.data = .dict es ep ∧ (∀ w : World, es.toList = ys.map fun x => ⟨(fkey x.1).hash w, .ref x.2.1, x.2.2⟩) ∧ (ys.map (·.1)).Nodup
inductive MO where
  | lst (xs : List Ab)
  | dct (kvs : List (Key × Ab))
  | nd (kvs : List (NK × Ab))
  | fd (kvs : List (FK × Ab))
structure Me where
  p : Addr
  mu : Bool
  o : MO
abbrev Mem := List Me
def MRep (K : PySem.W.Frag) (G H : Hp) (p : Addr) : MO → Prop
  | .lst xs => ∃ vs, H p = some (.lst vs) ∧ RepAll K G vs xs
  | .dct kvs => ∃ vs, H p = some (.dK vs) ∧ vs.map (·.1) = kvs.map (·.1) ∧ RepAll K G (vs.map (·.2)) (kvs.map (·.2))
  | .nd kvs => ∃ xs, H p = some (NdO p xs) ∧ (p == sysModules) = false ∧ xs.map (·.1) = kvs.map (·.1) ∧ RepAll K G (xs.map (·.2.2)) (kvs.map (·.2)) ∧ ∀ x ∈ xs, Dp K G (.ref x.2.1) (nkD x.1)
  | .fd kvs => ∃ xs, H p = some (FdO p xs) ∧ (p == sysModules) = false ∧ xs.map (·.1) = kvs.map (·.1) ∧ RepAll K G (xs.map (·.2.2)) (kvs.map (·.2)) ∧ ∀ x ∈ xs, Dp K G (.ref x.2.1) (fkD x.1)
structure Ok (K : PySem.W.Frag) (rs : Rs) (M : Mem) (G H : Hp) : Prop where
  gh : Same G H
  sep : ∀ b, rs.F b → G b = none
  i : rs.I H
  m : ∀ e ∈ M, G e.p = none ∧ ¬ rs.F e.p ∧ MRep K G H e.p e.o
  nd : ∀ (j k : Nat) (e f : Me), M[j]? = some e → M[k]? = some f → e.p = f.p → j = k
/-- what an expression makes of the heap -/
structure Nxt (rs : Rs) (G H G' H' : Hp) : Prop where
  g : Same G G'
  gh : Same G' H'
  h : ∀ b o, H b = some o → ¬ rs.F b → H' b = some o
  nw : ∀ b o, G' b = some o → G b = some o ∨ H b = none
  i : rs.I H'
section
variable {K : PySem.W.Frag} {rs : Rs} {M : Mem} {G H G1 H1 G2 H2 : Hp}
theorem MRep.same {p : Addr} {o : MO} (e : Same G G1) (h : ∀ o, H p = some o → H1 p = some o) (m : MRep K G H p o) : MRep K G1 H1 p o := by
  cases o with
  | lst xs =>
    obtain ⟨vs, e1, r⟩ := m
    exact ⟨vs, h _ e1, r.same e⟩
  | dct kvs =>
    obtain ⟨vs, e1, k, r⟩ := m
    exact ⟨vs, h _ e1, k, r.same e⟩
  | nd kvs =>
    obtain ⟨xs, e1, e2, k, r, q⟩ := m
    exact ⟨xs, h _ e1, e2, k, r.same e, fun x hx => dp_same e _ _ (q x hx)⟩
  | fd kvs =>
    obtain ⟨xs, e1, e2, k, r, q⟩ := m
    exact ⟨xs, h _ e1, e2, k, r.same e, fun x hx => dp_same e _ _ (q x hx)⟩
theorem MRep.notCod {p : Addr} {o : MO} {u : HO} (m : MRep K G H p o) (h : H p = some u) : ¬ Cod p u := by
  intro c
  cases o with
  | lst xs =>
    obtain ⟨vs, e, _⟩ := m
    rw [h] at e
    cases Option.some.inj e
    obtain ⟨q, z⟩ := c
    exact nomatch z
  | dct kvs =>
    obtain ⟨vs, e, _⟩ := m
    rw [h] at e
    cases Option.some.inj e
    obtain ⟨q, z⟩ := c
    exact nomatch z
  | nd kvs =>
    obtain ⟨xs, e, _⟩ := m
    rw [h] at e
    have e := Option.some.inj e
    subst e
    obtain ⟨g, ⟨ys, _, o, es, ep, e1, _, e2, _⟩, o2, vs, e3, e4⟩ := cod_ext c
    rw [e1] at e3
    cases Option.some.inj e3
    rw [e2] at e4
    cases e4
  | fd kvs =>
    obtain ⟨xs, e, _⟩ := m
    rw [h] at e
    have e := Option.some.inj e
    subst e
    obtain ⟨g, ⟨ys, _, o, es, ep, e1, _, e2, _⟩, o2, vs, e3, e4⟩ := cod_ext c
    rw [e1] at e3
    cases Option.some.inj e3
    rw [e2] at e4
    cases e4
theorem MRep.there {p : Addr} {o : MO} (m : MRep K G H p o) : ∃ u, H p = some u := by
  cases o with
  | lst xs =>
    obtain ⟨vs, e1, _⟩ := m
    exact ⟨_, e1⟩
  | dct kvs =>
    obtain ⟨vs, e1, _⟩ := m
    exact ⟨_, e1⟩
  | nd kvs =>
    obtain ⟨xs, e1, _⟩ := m
    exact ⟨_, e1⟩
  | fd kvs =>
    obtain ⟨xs, e1, _⟩ := m
    exact ⟨_, e1⟩
theorem Nxt.rfl (ok : Ok K rs M G H) : Nxt rs G H G H := ⟨Same.refl _, ok.gh, fun _ _ h _ => h, fun _ _ h => .inl h, ok.i⟩
theorem Ok.free (ok : Ok K rs M G H) {b : Addr} (h : H b = none) : ¬ rs.F b := fun f => by
  obtain ⟨o, e⟩ := rs.has H b ok.i f
  rw [h] at e
  cases e
theorem Nxt.trans (a : Nxt rs G H G1 H1) (b : Nxt rs G1 H1 G2 H2) (ok : Ok K rs M G H) : Nxt rs G H G2 H2 where
  g := a.g.trans b.g
  gh := b.gh
  h := fun c o e f => b.h c o (a.h c o e f) f
  nw := fun c o e => by
    rcases b.nw c o e with e1 | e1
    · exact a.nw c o e1
    · refine .inr ?_
      cases q : H c with
      | none => exact Eq.refl _
      | some u =>
        exfalso
        by_cases f : rs.F c
        · obtain ⟨o', e'⟩ := rs.has H1 c a.i f
          rw [e1] at e'
          cases e'
        · have := a.h c u q f
          rw [e1] at this
          cases this
  i := b.i
theorem Ok.nxt (ok : Ok K rs M G H) (n : Nxt rs G H G1 H1) : Ok K rs M G1 H1 where
  gh := n.gh
  sep := fun b f => by
    cases q : G1 b with
    | none => rfl
    | some o =>
      rcases n.nw b o q with e | e
      · rw [ok.sep b f] at e
        cases e
      · exact absurd f (ok.free e)
  i := n.i
  m := fun e he => by
    obtain ⟨h1, h2, h3⟩ := ok.m e he
    refine ⟨?_, h2, h3.same n.g fun o ho => n.h _ _ ho h2⟩
    cases q : G1 e.p with
    | none => rfl
    | some o =>
      obtain ⟨u, hu⟩ := h3.there
      rcases n.nw _ o q with z | z
      · rw [h1] at z
        cases z
      · rw [hu] at z
        cases z
  nd := ok.nd
theorem Ok.sub (ok : Ok K rs M G H) {M' : Mem} (h : ∀ e ∈ M', ∃ m, (⟨e.p, m, e.o⟩ : Me) ∈ M) (nd : ∀ (j k : Nat) (e f : Me), M'[j]? = some e → M'[k]? = some f → e.p = f.p → j = k) : Ok K rs M' G H where
  gh := ok.gh
  sep := ok.sep
  i := ok.i
  m := fun e he => by
    obtain ⟨m, hm⟩ := h e he
    exact ok.m ⟨e.p, m, e.o⟩ hm
  nd := nd
theorem Nxt.al (n : Nxt rs G H G1 H1) {b : Addr} {o : HO} (h : H b = some o) : ∃ o', H1 b = some o' := by
  by_cases f : rs.F b
  · exact rs.has H1 b n.i f
  · exact ⟨o, n.h b o h f⟩
/-- a new object, frozen at once -/
theorem Nxt.new (ok : Ok K rs M G H) {p : Addr} {o : HO} (hp : H p = none) : Nxt rs G H (upd G p o) (upd H p o) where
  g := fun b u e => by
    rw [upd_ne (ne_of_none (ok.gh _ _ e) hp)]
    exact e
  gh := fun b u e => by
    by_cases hb : b = p
    · subst hb
      rw [upd_same] at e ⊢
      exact e
    · rw [upd_ne hb] at e ⊢
      exact ok.gh _ _ e
  h := fun b u e _ => by
    rw [upd_ne (ne_of_none e hp)]
    exact e
  nw := fun b u e => by
    by_cases hb : b = p
    · subst hb
      exact .inr hp
    · rw [upd_ne hb] at e
      exact .inl e
  i := rs.st H _ ok.i fun b u f e => by
    rw [upd_ne (ne_of_none e hp)]
    exact e
/-- a new object, not frozen -/
theorem Nxt.newM (ok : Ok K rs M G H) {p : Addr} {o : HO} (hp : H p = none) : Nxt rs G H G (upd H p o) where
  g := Same.refl _
  gh := fun b u e => by
    rw [upd_ne (ne_of_none (ok.gh _ _ e) hp)]
    exact ok.gh _ _ e
  h := fun b u e _ => by
    rw [upd_ne (ne_of_none e hp)]
    exact e
  nw := fun b u e => .inl e
  i := rs.st H _ ok.i fun b u f e => by
    rw [upd_ne (ne_of_none e hp)]
    exact e
/-- an object of the heap's is frozen -/
theorem Nxt.frz (n : Nxt rs G H G1 H1) {p : Addr} {o : HO} (h1 : H1 p = some o) (h0 : H p = none) (g1 : G1 p = none) : Nxt rs G H (upd G1 p o) H1 where
  g := fun b u e => by
    rw [upd_ne]
    · exact n.g _ _ e
    · rintro rfl
      rw [n.g _ _ e] at g1
      cases g1
  gh := fun b u e => by
    by_cases hb : b = p
    · subst hb
      rw [upd_same] at e
      rw [h1, e]
    · rw [upd_ne hb] at e
      exact n.gh _ _ e
  h := n.h
  nw := fun b u e => by
    by_cases hb : b = p
    · subst hb
      exact .inr h0
    · rw [upd_ne hb] at e
      exact n.nw _ _ e
  i := n.i
theorem Ok.gnone (ok : Ok K rs M G H) {p : Addr} (hp : H p = none) : G p = none := by
  cases q : G p with
  | none => rfl
  | some o =>
    rw [ok.gh _ _ q] at hp
    cases hp
end

/-! ### expressions -/
def tD (K : PySem.W.Frag) (rs : Rs) (M : Mem) (ρ : List (Option Ab)) (R : Ab → Prop) : TE := fun σ H Q => ∃ G, Loc K G σ ρ ∧ Ok K rs M G H ∧ ∀ v a G' H', R a → Rep K G' v a → Nxt rs G H G' H' → Q v H'
def tDA (K : PySem.W.Frag) (rs : Rs) (M : Mem) (ρ : List (Option Ab)) (R : List Ab → Prop) : TA := fun σ H Q => ∃ G, Loc K G σ ρ ∧ Ok K rs M G H ∧ ∀ vs as G' H', R as → RepAll K G' vs as → Nxt rs G H G' H' → Q vs H'
def tDT (K : PySem.W.Frag) (rs : Rs) (M : Mem) (ρ : List (Option Ab)) (R : Bool → Prop) : TT := fun σ H Q => ∃ G, Loc K G σ ρ ∧ Ok K rs M G H ∧ ∀ b G' H', R b → Nxt rs G H G' H' → Q b H'
/-- a new list, not frozen -/
def tDN (K : PySem.W.Frag) (rs : Rs) (M : Mem) (ρ : List (Option Ab)) (R : List Ab → Prop) : TE := fun σ H Q => ∃ G, Loc K G σ ρ ∧ Ok K rs M G H ∧
  ∀ p vs as G' H', R as → RepAll K G' vs as → H' p = some (.lst vs) → G' p = none → H p = none → Nxt rs G H G' H' → Q (.ref p) H'
abbrev DE (X : Cx) (rs : Rs) (M : Mem) (ρ : List (Option Ab)) (e : Expr) (R : Ab → Prop) : Prop := PE X e (tD X.K rs M ρ R)
abbrev DA (X : Cx) (rs : Rs) (M : Mem) (ρ : List (Option Ab)) (es : List Expr) (R : List Ab → Prop) : Prop := PA X es (tDA X.K rs M ρ R)
abbrev DT (X : Cx) (rs : Rs) (M : Mem) (ρ : List (Option Ab)) (e : Expr) (R : Bool → Prop) : Prop := PT X e (tDT X.K rs M ρ R)
abbrev DW (X : Cx) (rs : Rs) (M : Mem) (ρ : List (Option Ab)) (e : Expr) (R : Bool → Prop) : Prop := PW X e (tDT X.K rs M ρ R)
abbrev DN (X : Cx) (rs : Rs) (M : Mem) (ρ : List (Option Ab)) (e : Expr) (R : List Ab → Prop) : Prop := PE X e (tDN X.K rs M ρ R)
/-- operations on values -/
def AR2 (K : PySem.W.Frag) (rs : Rs) (M : Mem) (r : R2) (x y : Ab) (R : Ab → Prop) : Prop := ∀ G H v u (Q : VK), Ok K rs M G H → Rep K G v x → Rep K G u y → (∀ z a G' H', R a → Rep K G' z a → Nxt rs G H G' H' → Q z H') → r v u H Q
def AR1 (K : PySem.W.Frag) (rs : Rs) (M : Mem) (r : V → Hp → VK → Prop) (x : Ab) (R : Ab → Prop) : Prop := ∀ G H v (Q : VK), Ok K rs M G H → Rep K G v x → (∀ z a G' H', R a → Rep K G' z a → Nxt rs G H G' H' → Q z H') → r v H Q
def ARC (K : PySem.W.Frag) (rs : Rs) (M : Mem) (r : List V → Hp → VK → Prop) (as : List Ab) (R : Ab → Prop) : Prop := ∀ G H vs (Q : VK), Ok K rs M G H → RepAll K G vs as → (∀ z a G' H', R a → Rep K G' z a → Nxt rs G H G' H' → Q z H') → r vs H Q
/-- .. that make a new list -/
def ANC (K : PySem.W.Frag) (rs : Rs) (M : Mem) (r : List V → Hp → VK → Prop) (as : List Ab) (R : List Ab → Prop) : Prop := ∀ G H vs (Q : VK), Ok K rs M G H → RepAll K G vs as →
  (∀ p ws bs G' H', R bs → RepAll K G' ws bs → H' p = some (.lst ws) → G' p = none → H p = none → Nxt rs G H G' H' → Q (.ref p) H') → r vs H Q
def AN2 (K : PySem.W.Frag) (rs : Rs) (M : Mem) (r : R2) (x y : Ab) (R : List Ab → Prop) : Prop := ∀ G H v u (Q : VK), Ok K rs M G H → Rep K G v x → Rep K G u y →
  (∀ p ws bs G' H', R bs → RepAll K G' ws bs → H' p = some (.lst ws) → G' p = none → H p = none → Nxt rs G H G' H' → Q (.ref p) H') → r v u H Q
section
variable {X : Cx} {rs : Rs} {M : Mem} {ρ : List (Option Ab)} {a b e o : Expr} {es : List Expr} {pos pos' apos p : Pos} {Ra Rb R R' : Ab → Prop} {x : Str} {i j : Int}
theorem pe_weak {te te' : TE} (h : PE X e te) (w : ∀ σ H Q, te' σ H Q → te σ H Q) : PE X e te' := ⟨fun pins s σ H Q I q => h.run pins s σ H Q I (w σ H Q q)⟩
theorem pa_weak {t t' : TA} (h : PA X es t) (w : ∀ σ H Q, t' σ H Q → t σ H Q) : PA X es t' := ⟨fun ps pins s σ H Q I q => h.run ps pins s σ H Q I (w σ H Q q)⟩
theorem pt_weak {t t' : TT} (h : PT X e t) (w : ∀ σ H Q, t' σ H Q → t σ H Q) : PT X e t' := ⟨fun pins s σ H Q I q => h.run pins s σ H Q I (w σ H Q q)⟩
theorem pw_weak {t t' : TT} (h : PW X e t) (w : ∀ σ H Q, t' σ H Q → t σ H Q) : PW X e t' := ⟨fun wh pins s σ H Q I q => h.run wh pins s σ H Q I (w σ H Q q)⟩
theorem de_imp (h : DE X rs M ρ e R) (w : ∀ a, R a → R' a) : DE X rs M ρ e R' := pe_weak h fun _ _ _ ⟨G, l, ok, k⟩ => ⟨G, l, ok, fun v a G' H' r => k v a G' H' (w a r)⟩
theorem de_is {y z : Ab} (h : DE X rs M ρ e (Is y)) (w : y = z) : DE X rs M ρ e (Is z) := w ▸ h
theorem dt_imp {T T' : Bool → Prop} (h : DT X rs M ρ e T) (w : ∀ a, T a → T' a) : DT X rs M ρ e T' := pt_weak h fun _ _ _ ⟨G, l, ok, k⟩ => ⟨G, l, ok, fun v G' H' r => k v G' H' (w v r)⟩
theorem dn_imp {T T' : List Ab → Prop} (h : DN X rs M ρ e T) (w : ∀ a, T a → T' a) : DN X rs M ρ e T' := pe_weak h fun _ _ _ ⟨G, l, ok, k⟩ => ⟨G, l, ok, fun p vs as G' H' r => k p vs as G' H' (w as r)⟩
/-- a value and what follows -/
theorem tD_go {K : PySem.W.Frag} {σ : L2.St} {G H : Hp} (l : Loc K G σ ρ) (ok : Ok K rs M G H) {Q : VK} (k : ∀ v a G' H', R a → Rep K G' v a → Loc K G' σ ρ → Ok K rs M G' H' → Nxt rs G H G' H' → Q v H') : tD K rs M ρ R σ H Q :=
  ⟨G, l, ok, fun v a G' H' r re n => k v a G' H' r re (l.same n.g) (ok.nxt n) n⟩

theorem de_var (i : Nat) {y : Ab} (h : ρ[i]? = some (some y)) (hN : X.N[i]? = some x := by rfl) (hv : Vis X.env.scope x := by first | exact Or.inl rfl | exact Or.inr (Or.inl rfl) | exact Or.inr (Or.inr rfl)) (hd : (x == ("__debug__" : Str)) = false := by decide)
    (hcd : (x == ("__classdict__" : Str)) = false := by decide) : DE X rs M ρ (.Name x pos) (Is y) :=
  pe_weak (pe_var (i := i) hN hv hd hcd) fun σ H Q ⟨G, l, ok, k⟩ => by
    obtain ⟨v, e, r⟩ := l.get h
    exact ⟨v, e, k v y G H rfl r (Nxt.rfl ok)⟩
theorem de_int {n : Int} {q : Nat} : DE X rs M ρ (.Constant (.int n) q pos) (Is (aI n)) := pe_weak pe_int fun σ H Q ⟨G, l, ok, k⟩ => k _ _ G H rfl (Dp.int n) (Nxt.rfl ok)
theorem de_bl {n : Bool} {q : Nat} : DE X rs M ρ (.Constant (.bool n) q pos) (Is (aB n)) := pe_weak pe_bl fun σ H Q ⟨G, l, ok, k⟩ => k _ _ G H rfl (Dp.bl n) (Nxt.rfl ok)
theorem de_non {q : Nat} : DE X rs M ρ (.Constant .none q pos) (Is aN) := pe_weak pe_non fun σ H Q ⟨G, l, ok, k⟩ => k _ _ G H rfl Dp.non (Nxt.rfl ok)
theorem de_str {n : Str} {q : Nat} : DE X rs M ρ (.Constant (.str n) q pos) (Is (aS n)) := pe_weak pe_str fun σ H Q ⟨G, l, ok, k⟩ => k _ _ G H rfl (Dp.str n) (Nxt.rfl ok)
theorem de_op {op : Operator} {r : R2} (ho : OpR X (binaryOp op) r) (ha : DE X rs M ρ a Ra) (hb : DE X rs M ρ b Rb) (h : ∀ y z, Ra y → Rb z → AR2 X.K rs M r y z R) : DE X rs M ρ (.BinOp a op b pos) R :=
  pe_weak (pe_op ho ha hb) fun σ H Q ⟨G, l, ok, k⟩ => tD_go l ok fun v y G1 H1 ry rep1 l1 ok1 n1 => tD_go l1 ok1 fun u z G2 H2 rz rep2 l2 ok2 n2 =>
    h y z ry rz G2 H2 v u Q ok2 (rep1.same n2.g) rep2 fun w c G3 H3 rc rep3 n3 => k w c G3 H3 rc rep3 (n1.trans (n2.trans n3 ok1) ok)
theorem dn_op {op : Operator} {r : R2} {T : List Ab → Prop} (ho : OpR X (binaryOp op) r) (ha : DE X rs M ρ a Ra) (hb : DE X rs M ρ b Rb) (h : ∀ y z, Ra y → Rb z → AN2 X.K rs M r y z T) : DN X rs M ρ (.BinOp a op b pos) T :=
  pe_weak (pe_op ho ha hb) fun σ H Q ⟨G, l, ok, k⟩ => tD_go l ok fun v y G1 H1 ry rep1 l1 ok1 n1 => tD_go l1 ok1 fun u z G2 H2 rz rep2 l2 ok2 n2 =>
    h y z ry rz G2 H2 v u Q ok2 (rep1.same n2.g) rep2 fun q ws bs G3 H3 rb rep3 e3 g3 h3 n3 => k q ws bs G3 H3 rb rep3 e3 g3 (by
      cases z : H q with
      | none => rfl
      | some u =>
        have n12 := n1.trans n2 ok
        by_cases f : rs.F q
        · obtain ⟨o, e⟩ := rs.has H2 q ok2.i f
          rw [h3] at e
          cases e
        · rw [n12.h q u z f] at h3
          cases h3) (n1.trans (n2.trans n3 ok1) ok)
theorem de_cmp {op : CmpOp} {r : R2} (ho : OpR X (compareOp op) r) (ha : DE X rs M ρ a Ra) (hb : DE X rs M ρ b Rb) (h : ∀ y z, Ra y → Rb z → AR2 X.K rs M r y z R) (hm : behindInMarks op b = false) : DE X rs M ρ (.Compare a [op] [b] pos) R :=
  pe_weak (pe_cmpR ho ha hb hm) fun σ H Q ⟨G, l, ok, k⟩ => tD_go l ok fun v y G1 H1 ry rep1 l1 ok1 n1 => tD_go l1 ok1 fun u z G2 H2 rz rep2 l2 ok2 n2 =>
    h y z ry rz G2 H2 v u Q ok2 (rep1.same n2.g) rep2 fun w c G3 H3 rc rep3 n3 => k w c G3 H3 rc rep3 (n1.trans (n2.trans n3 ok1) ok)
theorem dt_cmp {op : CmpOp} {r : R2} {T : Bool → Prop} (ho : OpR X (compareOp op) r) (ha : DE X rs M ρ a Ra) (hb : DE X rs M ρ b Rb) (h : ∀ y z, Ra y → Rb z → AR2 X.K rs M r y z (fun w => ∃ c, w = aB c ∧ T c)) (hm : behindInMarks op b = false) : DT X rs M ρ (.Compare a [op] [b] pos) T :=
  pt_weak (pt_cmpR ho ha hb hm) fun σ H Q ⟨G, l, ok, k⟩ => tD_go l ok fun v y G1 H1 ry rep1 l1 ok1 n1 => tD_go l1 ok1 fun u z G2 H2 rz rep2 l2 ok2 n2 =>
    h y z ry rz G2 H2 v u _ ok2 (rep1.same n2.g) rep2 fun w c G3 H3 rc rep3 n3 => by
      obtain ⟨t, rfl, ht⟩ := rc
      have rep3 : Dp X.K G3 w (.bool t) := rep3
      cases rep3
      exact ⟨t, rfl, k t G3 H3 ht (n1.trans (n2.trans n3 ok1) ok)⟩
theorem de_un {op : UnaryOp} {r : V → Hp → VK → Prop} (ho : UnR X (unaryOp op) r) (ha : DE X rs M ρ a Ra) (h : ∀ y, Ra y → AR1 X.K rs M r y R) : DE X rs M ρ (.UnaryOp op a pos) R :=
  pe_weak (pe_un ho ha) fun σ H Q ⟨G, l, ok, k⟩ => tD_go l ok fun v y G1 H1 ry rep1 l1 ok1 n1 => h y ry G1 H1 v Q ok1 rep1 fun w c G3 H3 rc rep3 n3 => k w c G3 H3 rc rep3 (n1.trans n3 ok)
theorem da_nil : DA X rs M ρ [] (fun as => as = []) := pa_weak pa_nil fun σ H Q ⟨G, l, ok, k⟩ => k [] [] G H rfl trivial (Nxt.rfl ok)
theorem da_consR {T T' : List Ab → Prop} (ha : DE X rs M ρ e Ra) (hr : DA X rs M ρ es T) (h : ∀ y ys, Ra y → T ys → T' (y :: ys)) (hs : starEach (e :: es) X.env = (false, eval e X.env) :: starEach es X.env := by rfl) : DA X rs M ρ (e :: es) T' :=
  pa_weak (pa_cons ha hr hs) fun σ H Q ⟨G, l, ok, k⟩ => tD_go l ok fun v y G1 H1 ry rep1 l1 ok1 n1 => ⟨G1, l1, ok1, fun vs ys G2 H2 ry2 rep2 n2 => k (v :: vs) (y :: ys) G2 H2 (h y ys ry ry2) ⟨rep1.same n2.g, rep2⟩ (n1.trans n2 ok)⟩
theorem da_cons {y : Ab} {ys : List Ab} (ha : DE X rs M ρ e (Is y)) (hr : DA X rs M ρ es (fun as => as = ys)) (hs : starEach (e :: es) X.env = (false, eval e X.env) :: starEach es X.env := by rfl) : DA X rs M ρ (e :: es) (fun as => as = y :: ys) :=
  da_consR ha hr (fun _ _ h1 h2 => by rw [h1, h2]) hs
theorem de_tupR {T : List Ab → Prop} {q : Nat} (ha : DA X rs M ρ es T) (h : ∀ as, T as → as.length ≤ 100000 ∧ ∃ ds, as = ds.map .d ∧ R (aT ds)) : DE X rs M ρ (.Tuple es q pos) R :=
  pe_weak (pe_tup ha) fun σ H Q ⟨G, l, ok, k⟩ => ⟨G, l, ok, fun vs as G1 H1 ra rep n => by
    obtain ⟨hl, ds, rfl, r⟩ := h as ra
    refine ⟨by rw [rep.length]; exact Nat.le_trans hl (by decide), fun p hp => ?_⟩
    have n2 := Nxt.new (o := .tup vs) (ok.nxt n) hp
    exact k (.ref p) (aT ds) _ _ r (Dp.tup (.inl (.inl upd_same)) (dpAll_same n2.g _ _ (repAll_dp.mp rep))) (n.trans n2 ok)⟩
theorem de_tup {ds : List PyData} {as : List Ab} {q : Nat} (ha : DA X rs M ρ es (fun bs => bs = as)) (h : as = ds.map .d := by rfl) (hl : as.length ≤ 100000 := by first | (show (_ : Nat) ≤ _; simp; done) | decide) : DE X rs M ρ (.Tuple es q pos) (Is (aT ds)) :=
  de_tupR ha fun bs e => by subst e; exact ⟨hl, ds, h, rfl⟩
theorem dn_lst {T : List Ab → Prop} (ha : DA X rs M ρ es T) (h : ∀ as, T as → as.length ≤ 100000) : DN X rs M ρ (.List es pos) T :=
  pe_weak (pe_lst ha) fun σ H Q ⟨G, l, ok, k⟩ => ⟨G, l, ok, fun vs as G1 H1 ra rep n => by
    refine ⟨by rw [rep.length]; exact Nat.le_trans (h as ra) (by decide), fun p hp => ?_⟩
    have ok1 := ok.nxt n
    refine k p vs as G1 _ ra rep upd_same (ok1.gnone hp) ?_ (n.trans (Nxt.newM ok1 hp) ok)
    cases z : H p with
    | none => rfl
    | some u =>
      by_cases f : rs.F p
      · obtain ⟨o, e⟩ := rs.has H1 p ok1.i f
        rw [hp] at e
        cases e
      · rw [n.h p u z f] at hp
        cases hp⟩
/-- a new list, frozen -/
theorem de_of_dn {T : List Ab → Prop} (h : DN X rs M ρ e T) (w : ∀ as, T as → ∃ ds, as = ds.map .d ∧ R (aL ds)) : DE X rs M ρ e R :=
  pe_weak h fun σ H Q ⟨G, l, ok, k⟩ => ⟨G, l, ok, fun p vs as G1 H1 ra rep e1 g1 h0 n => by
    obtain ⟨ds, rfl, r⟩ := w as ra
    have n2 := n.frz e1 h0 g1
    refine k (.ref p) (aL ds) _ _ r (Dp.lst upd_same (dpAll_same (fun b u e => ?_) _ _ (repAll_dp.mp rep))) n2
    rw [upd_ne (ne_of_none e g1)]
    exact e⟩
theorem de_lst {ds : List PyData} {as : List Ab} (ha : DA X rs M ρ es (fun bs => bs = as)) (h : as = ds.map .d := by rfl) (hl : as.length ≤ 100000 := by first | (show (_ : Nat) ≤ _; simp; done) | decide) : DE X rs M ρ (.List es pos) (Is (aL ds)) :=
  de_of_dn (dn_lst ha fun bs e => by subst e; exact hl) fun bs e => ⟨ds, by rw [e, h], rfl⟩
theorem de_ifR {T : Bool → Prop} {c : Expr} (hc : DT X rs M ρ c T) (ha : T true → DE X rs M ρ a R) (hb : T false → DE X rs M ρ b R) : DE X rs M ρ (.IfExp c a b pos) R := by
  have ha' : PE X a (fun σ H Q => T true ∧ tD X.K rs M ρ R σ H Q) := ⟨fun pins s σ H Q I h => (ha h.1).run pins s σ H Q I h.2⟩
  have hb' : PE X b (fun σ H Q => T false ∧ tD X.K rs M ρ R σ H Q) := ⟨fun pins s σ H Q I h => (hb h.1).run pins s σ H Q I h.2⟩
  refine pe_weak (pe_ifExp hc ha' hb') fun σ H Q ⟨G, l, ok, k⟩ => ⟨G, l, ok, fun t G1 H1 ht n => ?_⟩
  cases t with
  | true => exact iteT ⟨ht, G1, l.same n.g, ok.nxt n, fun v y G2 H2 r rep n2 => k v y G2 H2 r rep (n.trans n2 ok)⟩
  | false => exact iteF ⟨ht, G1, l.same n.g, ok.nxt n, fun v y G2 H2 r rep n2 => k v y G2 H2 r rep (n.trans n2 ok)⟩

/-! ### tests -/
theorem dt_val (h : DE X rs M ρ e R) {T : Bool → Prop} (w : ∀ y, R y → ∃ c, y = aB c ∧ T c) (he : ∀ whole, isTrue e X.env whole = (do let v ← whole; standAt e.pos; holding [v] (truthy v)) := by intro _; rfl) : DT X rs M ρ e T :=
  pt_weak (pt_val h he) fun σ H Q ⟨G, l, ok, k⟩ => ⟨G, l, ok, fun v y G1 H1 ry rep n => by
    obtain ⟨c, rfl, t⟩ := w y ry
    have rep : Dp X.K G1 v (.bool c) := rep
    cases rep
    exact ⟨c, rfl, k c G1 H1 t n⟩⟩
theorem dt_not {T T' : Bool → Prop} (h : DT X rs M ρ a T) (w : ∀ c, T c → T' (!c)) : DT X rs M ρ (.UnaryOp .Not a pos) T' :=
  pt_weak (pt_not h) fun σ H Q ⟨G, l, ok, k⟩ => ⟨G, l, ok, fun c G1 H1 t n => k (!c) G1 H1 (w c t) n⟩
theorem dw_and1 {T : Bool → Prop} (h : DT X rs M ρ a T) : DW X rs M ρ (.BoolOp .And [a] pos) T := pw_and1 h
theorem dw_or1 {T : Bool → Prop} (h : DT X rs M ρ a T) : DW X rs M ρ (.BoolOp .Or [a] pos) T := pw_or1 h
theorem dw_and {T U V' : Bool → Prop} (ha : DT X rs M ρ a T) (hb : T true → DW X rs M ρ (.BoolOp .And (b :: es) pos) U) (h1 : T true → ∀ c, U c → V' c) (h2 : T false → V' false) : DW X rs M ρ (.BoolOp .And (a :: b :: es) pos) V' := by
  have hb' : PW X (.BoolOp .And (b :: es) pos) (fun σ H Q => T true ∧ tDT X.K rs M ρ U σ H Q) := ⟨fun wh pins s σ H Q I h => (hb h.1).run wh pins s σ H Q I h.2⟩
  refine pw_weak (pw_and ha hb') fun σ H Q ⟨G, l, ok, k⟩ => ⟨G, l, ok, fun t G1 H1 ht n => ?_⟩
  cases t with
  | true => exact iteT ⟨ht, G1, l.same n.g, ok.nxt n, fun c G2 H2 u n2 => k c G2 H2 (h1 ht c u) (n.trans n2 ok)⟩
  | false => exact iteF (k false G1 H1 (h2 ht) n)
theorem dw_or {T U V' : Bool → Prop} (ha : DT X rs M ρ a T) (hb : T false → DW X rs M ρ (.BoolOp .Or (b :: es) pos) U) (h1 : T true → V' true) (h2 : T false → ∀ c, U c → V' c) : DW X rs M ρ (.BoolOp .Or (a :: b :: es) pos) V' := by
  have hb' : PW X (.BoolOp .Or (b :: es) pos) (fun σ H Q => T false ∧ tDT X.K rs M ρ U σ H Q) := ⟨fun wh pins s σ H Q I h => (hb h.1).run wh pins s σ H Q I h.2⟩
  refine pw_weak (pw_or ha hb') fun σ H Q ⟨G, l, ok, k⟩ => ⟨G, l, ok, fun t G1 H1 ht n => ?_⟩
  cases t with
  | true => exact iteT (k true G1 H1 (h1 ht) n)
  | false => exact iteF ⟨ht, G1, l.same n.g, ok.nxt n, fun c G2 H2 u n2 => k c G2 H2 (h2 ht c u) (n.trans n2 ok)⟩
/-- as a value -/
theorem de_and1 {op : BoolOp} (h : DE X rs M ρ a R) : DE X rs M ρ (.BoolOp op [a] pos) R := pe_one h
theorem de_and {T : Bool → Prop} (ha : DE X rs M ρ a Ra) (wa : ∀ y, Ra y → ∃ c, y = aB c ∧ T c) (hb : T true → DE X rs M ρ (.BoolOp .And (b :: es) pos) R) (h2 : T false → R (aB false)) : DE X rs M ρ (.BoolOp .And (a :: b :: es) pos) R := by
  have hb' : PE X (.BoolOp .And (b :: es) pos) (fun σ H Q => T true ∧ tD X.K rs M ρ R σ H Q) := ⟨fun pins s σ H Q I h => (hb h.1).run pins s σ H Q I h.2⟩
  refine pe_weak (pe_and ha hb') fun σ H Q ⟨G, l, ok, k⟩ => ⟨G, l, ok, fun v y G1 H1 ry rep n => ?_⟩
  obtain ⟨c, rfl, ht⟩ := wa y ry
  have rep' : Dp X.K G1 v (.bool c) := rep
  cases rep'
  refine ⟨c, rfl, ?_⟩
  cases c with
  | true => exact iteT ⟨ht, G1, l.same n.g, ok.nxt n, fun v y G2 H2 r rep n2 => k v y G2 H2 r rep (n.trans n2 ok)⟩
  | false => exact iteF (k _ _ G1 H1 (h2 ht) rep n)
theorem de_or {T : Bool → Prop} (ha : DE X rs M ρ a Ra) (wa : ∀ y, Ra y → ∃ c, y = aB c ∧ T c) (hb : T false → DE X rs M ρ (.BoolOp .Or (b :: es) pos) R) (h2 : T true → R (aB true)) : DE X rs M ρ (.BoolOp .Or (a :: b :: es) pos) R := by
  have hb' : PE X (.BoolOp .Or (b :: es) pos) (fun σ H Q => T false ∧ tD X.K rs M ρ R σ H Q) := ⟨fun pins s σ H Q I h => (hb h.1).run pins s σ H Q I h.2⟩
  refine pe_weak (pe_or ha hb') fun σ H Q ⟨G, l, ok, k⟩ => ⟨G, l, ok, fun v y G1 H1 ry rep n => ?_⟩
  obtain ⟨c, rfl, ht⟩ := wa y ry
  have rep' : Dp X.K G1 v (.bool c) := rep
  cases rep'
  refine ⟨c, rfl, ?_⟩
  cases c with
  | true => exact iteT (k _ _ G1 H1 (h2 ht) rep n)
  | false => exact iteF ⟨ht, G1, l.same n.g, ok.nxt n, fun v y G2 H2 r rep n2 => k v y G2 H2 r rep (n.trans n2 ok)⟩
theorem de_not {T : Bool → Prop} (ha : DE X rs M ρ a Ra) (wa : ∀ y, Ra y → ∃ c, y = aB c ∧ R (aB (!c))) : DE X rs M ρ (.UnaryOp .Not a pos) R :=
  pe_weak (pe_not ha) fun σ H Q ⟨G, l, ok, k⟩ => ⟨G, l, ok, fun v y G1 H1 ry rep n => by
    obtain ⟨c, rfl, ht⟩ := wa y ry
    have rep' : Dp X.K G1 v (.bool c) := rep
    cases rep'
    exact ⟨c, rfl, k _ (aB (!c)) G1 H1 ht (Dp.bl _) n⟩⟩

/-! ### calls -/
theorem de_callB {T : List Ab → Prop} {id : String} {r : List V → Hp → VK → Prop} (hc : CallR X (.builtin id) r) (hg : Gl X x) (hm : X.mg x = none) (hv : bootBuiltins x = some (.builtin id)) (ha : DA X rs M ρ (e :: es) T) (h : ∀ as, T as → ARC X.K rs M r as R)
    (hn : x ≠ "__name__" := by decide) (hdb : (x == ("__debug__" : Str)) = false := by decide) (hs : starEach (e :: es) X.env = (false, eval e X.env) :: starEach es X.env := by rfl) (hpl : (backTo pos (starEach es X.env)).any (·.1) = false := by rfl) : DE X rs M ρ (.Call (.Name x p) (e :: es) [] pos) R :=
  pe_weak (pe_callB hc hg hm hv ha hn hdb hs hpl) fun σ H Q ⟨G, l, ok, k⟩ => ⟨G, l, ok, fun vs as G1 H1 ra rep n => h as ra G1 H1 vs Q (ok.nxt n) rep fun z y G2 H2 r rep2 n2 => k z y G2 H2 r rep2 (n.trans n2 ok)⟩
theorem de_callTy {T : List Ab → Prop} {id : String} {r : List V → Hp → VK → Prop} (hc : CallR X (.type id) r) (hg : Gl X x) (hm : X.mg x = none) (hv : bootBuiltins x = some (.type id)) (ha : DA X rs M ρ (e :: es) T) (h : ∀ as, T as → ARC X.K rs M r as R)
    (hn : x ≠ "__name__" := by decide) (hdb : (x == ("__debug__" : Str)) = false := by decide) (hs : starEach (e :: es) X.env = (false, eval e X.env) :: starEach es X.env := by rfl) (hpl : (backTo pos (starEach es X.env)).any (·.1) = false := by rfl) : DE X rs M ρ (.Call (.Name x p) (e :: es) [] pos) R :=
  pe_weak (pe_callTy hc hg hm hv ha hn hdb hs hpl) fun σ H Q ⟨G, l, ok, k⟩ => ⟨G, l, ok, fun vs as G1 H1 ra rep n => h as ra G1 H1 vs Q (ok.nxt n) rep fun z y G2 H2 r rep2 n2 => k z y G2 H2 r rep2 (n.trans n2 ok)⟩
theorem fresh_of {rs : Rs} {M : Mem} {G H G1 H1 : Hp} {K : PySem.W.Frag} {p : Addr} (ok : Ok K rs M G H) (n : Nxt rs G H G1 H1) (h : H1 p = none) : H p = none := by
  cases z : H p with
  | none => rfl
  | some u =>
    by_cases f : rs.F p
    · obtain ⟨o, e⟩ := rs.has H1 p n.i f
      rw [h] at e
      cases e
    · rw [n.h p u z f] at h
      cases h
theorem dn_callTy {T T' : List Ab → Prop} {id : String} {r : List V → Hp → VK → Prop} (hc : CallR X (.type id) r) (hg : Gl X x) (hm : X.mg x = none) (hv : bootBuiltins x = some (.type id)) (ha : DA X rs M ρ (e :: es) T) (h : ∀ as, T as → ANC X.K rs M r as T')
    (hn : x ≠ "__name__" := by decide) (hdb : (x == ("__debug__" : Str)) = false := by decide) (hs : starEach (e :: es) X.env = (false, eval e X.env) :: starEach es X.env := by rfl) (hpl : (backTo pos (starEach es X.env)).any (·.1) = false := by rfl) : DN X rs M ρ (.Call (.Name x p) (e :: es) [] pos) T' :=
  pe_weak (pe_callTy hc hg hm hv ha hn hdb hs hpl) fun σ H Q ⟨G, l, ok, k⟩ => ⟨G, l, ok, fun vs as G1 H1 ra rep n => h as ra G1 H1 vs Q (ok.nxt n) rep fun q ws bs G2 H2 r rep2 e2 g2 h2 n2 => k q ws bs G2 H2 r rep2 e2 g2 (fresh_of ok n h2) (n.trans n2 ok)⟩

/-- a def's promise in these words: T tells, of the resource and the arguments, what is promised -/
def Spec (K : PySem.W.Frag) (T : Rs → Mem → List Ab → (Ab → Prop) → Prop) : Sp := fun vs H Q _ => ∃ rs M as R G, T rs M as R ∧ (∀ e ∈ M, e.mu = false) ∧ RepAll K G vs as ∧ Ok K rs M G H ∧ ∀ z a G' H', R a → Rep K G' z a → Nxt rs G H G' H' → Q z H'
theorem de_call {T : List Ab → Prop} {S : Rs → Mem → List Ab → (Ab → Prop) → Prop} {CX : CXT} {k : Nat} {f : Addr} {fd : FuncData} {ps : List Str} {E : XK} (F : FnG X.prog X.w X.K X.mg X.base CX k f fd ps (Spec X.K S)) (hr : Room k X.A) (gd : X.A.guards = some []) (hg : Gl X x) (hm : X.mg x = some (.ref f))
    (hk : PySem.W.keepIn X.K (.ref f) = true) (hb : Binds X.K fd ps []) (hx : Passes CX X E) (ha : DA X rs M ρ (e :: es) T) (h : ∀ as, T as → S rs [] as R)
    (hdb : (x == ("__debug__" : Str)) = false := by decide) (he : starEach (e :: es) X.env = (false, eval e X.env) :: starEach es X.env := by rfl) (hpl : (backTo pos (starEach es X.env)).any (·.1) = false := by rfl) : DE X rs M ρ (.Call (.Name x p) (e :: es) [] pos) R :=
  pe_weak (pe_callG (E := E) F hr gd hg hm hk hb .nil hx ha hdb he hpl) fun σ H Q ⟨G, l, ok, k⟩ => ⟨G, l, ok, fun vs as G1 H1 ra rep n => ⟨rs, [], as, R, G1, h as ra, fun _ z => absurd z List.not_mem_nil, by rw [List.append_nil]; exact rep, (ok.nxt n).sub (fun _ z => absurd z List.not_mem_nil) (fun _ _ _ _ z => by simp at z), fun z y G2 H2 r rep2 n2 => k z y G2 H2 r rep2 (n.trans n2 ok)⟩⟩
/-- .. with lists of the caller's that are read -/
theorem de_callM {M' : Mem} {T : List Ab → Prop} {S : Rs → Mem → List Ab → (Ab → Prop) → Prop} {CX : CXT} {k : Nat} {f : Addr} {fd : FuncData} {ps : List Str} {E : XK} (F : FnG X.prog X.w X.K X.mg X.base CX k f fd ps (Spec X.K S)) (hr : Room k X.A) (gd : X.A.guards = some []) (hg : Gl X x) (hm : X.mg x = some (.ref f))
    (hk : PySem.W.keepIn X.K (.ref f) = true) (hb : Binds X.K fd ps []) (hx : Passes CX X E) (ha : DA X rs M ρ (e :: es) T) (hM : ∀ e ∈ M', e.mu = false ∧ ∃ m, (⟨e.p, m, e.o⟩ : Me) ∈ M) (nd : ∀ (j k : Nat) (e f : Me), M'[j]? = some e → M'[k]? = some f → e.p = f.p → j = k) (h : ∀ as, T as → S rs M' as R)
    (hdb : (x == ("__debug__" : Str)) = false := by decide) (he : starEach (e :: es) X.env = (false, eval e X.env) :: starEach es X.env := by rfl) (hpl : (backTo pos (starEach es X.env)).any (·.1) = false := by rfl) : DE X rs M ρ (.Call (.Name x p) (e :: es) [] pos) R :=
  pe_weak (pe_callG (E := E) F hr gd hg hm hk hb .nil hx ha hdb he hpl) fun σ H Q ⟨G, l, ok, k⟩ => ⟨G, l, ok, fun vs as G1 H1 ra rep n => ⟨rs, M', as, R, G1, h as ra, fun e he => (hM e he).1, by rw [List.append_nil]; exact rep, (ok.nxt n).sub (fun e he => (hM e he).2) nd, fun z y G2 H2 r rep2 n2 => k z y G2 H2 r rep2 (n.trans n2 ok)⟩⟩
/-- f(k = v, ..) -/
abbrev DK (X : Cx) (rs : Rs) (M : Mem) (ρ : List (Option Ab)) (kws : List Keyword) (R : List Ab → Prop) : Prop := PK X kws (tDA X.K rs M ρ R)
theorem pk_weak {kws : List Keyword} {t t' : TA} (h : PK X kws t) (w : ∀ σ H Q, t' σ H Q → t σ H Q) : PK X kws t' := ⟨fun ps pins s σ H Q I q => h.run ps pins s σ H Q I (w σ H Q q)⟩
theorem dk_nil : DK X rs M ρ [] (fun as => as = []) := pk_weak pk_nil fun σ H Q ⟨G, l, ok, k⟩ => k [] [] G H rfl trivial (Nxt.rfl ok)
theorem dk_cons {y : Ab} {ys : List Ab} {kws : List Keyword} {nm : Option Str} {kpos : Pos} (ha : DE X rs M ρ e (Is y)) (hr : DK X rs M ρ kws (fun as => as = ys)) : DK X rs M ρ (⟨nm, e, kpos⟩ :: kws) (fun as => as = y :: ys) :=
  pk_weak (pk_cons ha hr) fun σ H Q ⟨G, l, ok, k⟩ => tD_go l ok fun v z G1 H1 rz rep1 l1 ok1 n1 => ⟨G1, l1, ok1, fun vs zs G2 H2 rz2 rep2 n2 => k (v :: vs) (z :: zs) G2 H2 (by rw [rz, rz2]) ⟨rep1.same n2.g, rep2⟩ (n1.trans n2 ok)⟩
theorem de_callK0 {as bs : List Ab} {S : Rs → Mem → List Ab → (Ab → Prop) → Prop} {CX : CXT} {k : Nat} {f : Addr} {fd : FuncData} {ps ks : List Str} {E : XK} {kws : List Keyword} {g : List Value → List Value → List Value} {gV : List V → List V → List V}
    (F : FnG X.prog X.w X.K X.mg X.base CX k f fd ps (Spec X.K S)) (hr : Room k X.A) (gd : X.A.guards = some []) (hg : Gl X x) (hm : X.mg x = some (.ref f)) (hk : PySem.W.keepIn X.K (.ref f) = true) (hb : KBinds X.K fd ps ks g gV) (hx : Passes CX X E)
    (hkw : DK X rs M ρ kws (fun cs => cs = as)) (hV : ∀ G vs, RepAll X.K G vs as → RepAll X.K G (gV [] vs) bs) (h : S rs [] bs R) (hall : (backToKw pos (keywordEach kws X.env)).all (·.1.isSome) = true := by rfl) (hks : (backToKw pos (keywordEach kws X.env)).filterMap (·.1) = ks := by rfl)
    (hdb : (x == ("__debug__" : Str)) = false := by decide) (hpl : ((backTo pos (starEach [] X.env)).any (·.1) || (backToKw pos (keywordEach kws X.env)).any (·.1.isNone)) = false := by rfl) : DE X rs M ρ (.Call (.Name x p) [] kws pos) R :=
  pe_weak (pe_callGK0 (E := E) F hr gd hg hm hk hb hx hkw hall hks hdb hpl) fun σ H Q ⟨G, l, ok, k⟩ => ⟨G, l, ok, fun vs cs G1 H1 rc rep n => by
    subst rc
    exact ⟨rs, [], bs, R, G1, h, fun _ z => absurd z List.not_mem_nil, hV G1 vs rep, (ok.nxt n).sub (fun _ z => absurd z List.not_mem_nil) (fun _ _ _ _ z => by simp at z), fun z y G2 H2 r rep2 n2 => k z y G2 H2 r rep2 (n.trans n2 ok)⟩⟩
end
end HW
/-! Own layer, part C: statements, what is walked, comprehensions, defs. -/
namespace HW
open PySem PySem.Spec PyProof.Rows L2 RZ

structure Sta where
  rs : Rs
  M : Mem
  ρ : List (Option Ab)
structure AE where
  nx : Sta → Prop
  rt : Rs → Mem → Ab → Prop
  bk : Sta → Prop := fun _ => False
  ct : Sta → Prop := fun _ => False
/-- how the heap lies behind the entry (G0, H0); Ff: what of the entry's may be changed -/
structure Lie (Ff : Addr → Prop) (G0 H0 G H : Hp) : Prop where
  g : Same G0 G
  h : ∀ b o, H0 b = some o → ¬ Ff b → H b = some o
  al : ∀ b o, H0 b = some o → ∃ o', H b = some o'
  nw : ∀ b o, G b = some o → G0 b = some o ∨ H0 b = none
structure Stand (K : PySem.W.Frag) (Ff : Addr → Prop) (G0 H0 : Hp) (S : Sta) (σ : L2.St) (G H : Hp) : Prop where
  loc : Loc K G σ S.ρ
  ok : Ok K S.rs S.M G H
  lie : Lie Ff G0 H0 G H
  own : ∀ e ∈ S.M, e.mu = true → H0 e.p = none ∨ Ff e.p
  fr : ∀ b, S.rs.F b → H0 b = none ∨ Ff b
section
variable {K : PySem.W.Frag} {Ff : Addr → Prop} {G0 H0 G H G1 H1 : Hp} {S : Sta} {σ : L2.St}
theorem Lie.nxt {rs : Rs} (l : Lie Ff G0 H0 G H) (fr : ∀ b, rs.F b → H0 b = none ∨ Ff b) (n : Nxt rs G H G1 H1) : Lie Ff G0 H0 G1 H1 where
  g := l.g.trans n.g
  h := fun b o e f => n.h b o (l.h b o e f) fun z => by
    rcases fr b z with z | z
    · rw [e] at z
      cases z
    · exact f z
  al := fun b o e => by
    obtain ⟨o', e'⟩ := l.al b o e
    exact n.al e'
  nw := fun b o e => by
    rcases n.nw b o e with z | z
    · exact l.nw b o z
    · refine .inr ?_
      cases q : H0 b with
      | none => rfl
      | some u =>
        obtain ⟨o', e'⟩ := l.al b u q
        rw [z] at e'
        cases e'
theorem Lie.refl (Ff : Addr → Prop) (G H : Hp) : Lie Ff G H G H := ⟨Same.refl _, fun _ _ h _ => h, fun b o h => ⟨o, h⟩, fun _ _ h => .inl h⟩
theorem Stand.nxt (s : Stand K Ff G0 H0 S σ G H) (n : Nxt S.rs G H G1 H1) : Stand K Ff G0 H0 S σ G1 H1 := ⟨s.loc.same n.g, s.ok.nxt n, s.lie.nxt s.fr n, s.own, s.fr⟩
theorem Stand.set {v : V} {a : Ab} {i : Nat} (s : Stand K Ff G0 H0 S σ G H) (r : Rep K G v a) : Stand K Ff G0 H0 ⟨S.rs, S.M, S.ρ.set i (some a)⟩ (σ.set i (some v)) G H := ⟨s.loc.set r i, s.ok, s.lie, s.own, s.fr⟩
/-- a new list of our own -/
theorem Stand.push {p : Addr} {vs : List V} {as : List Ab} (s : Stand K Ff G0 H0 S σ G H) (n : Nxt S.rs G H G1 H1) (rep : RepAll K G1 vs as) (e1 : H1 p = some (.lst vs)) (g1 : G1 p = none) (h0 : H p = none) :
    Stand K Ff G0 H0 ⟨S.rs, ⟨p, true, .lst as⟩ :: S.M, S.ρ⟩ σ G1 H1 := by
  have s1 := s.nxt n
  have was : ∀ e ∈ S.M, e.p ≠ p := fun e he z => by
    obtain ⟨_, _, m⟩ := s.ok.m e he
    obtain ⟨u, hu⟩ := m.there
    rw [z, h0] at hu
    cases hu
  refine ⟨s1.loc, ⟨s1.ok.gh, s1.ok.sep, s1.ok.i, fun e he => ?_, fun j k e f h1 h2 h3 => ?_⟩, s1.lie, fun e he hm => ?_, s1.fr⟩
  · rcases List.mem_cons.mp he with z | z
    · subst z
      exact ⟨g1, s.ok.free h0, vs, e1, rep⟩
    · exact s1.ok.m e z
  · cases j with
    | zero =>
      have h1 : _ = e := Option.some.inj h1
      subst h1
      cases k with
      | zero => rfl
      | succ k =>
        have h2' : S.M[k]? = some f := h2
        exact absurd h3.symm (was f (List.mem_of_getElem? h2'))
    | succ j =>
      have h1' : S.M[j]? = some e := h1
      cases k with
      | zero =>
        have h2 : _ = f := Option.some.inj h2
        subst h2
        exact absurd h3 (was e (List.mem_of_getElem? h1'))
      | succ k =>
        have h2' : S.M[k]? = some f := h2
        rw [s1.ok.nd j k e f h1' h2' h3]
  · rcases List.mem_cons.mp he with z | z
    · subst z
      refine .inl ?_
      cases q : H0 p with
      | none => rfl
      | some u =>
        obtain ⟨o', e'⟩ := s.lie.al p u q
        rw [h0] at e'
        cases e'
    · exact s1.own e z hm
/-- a list of our own is changed -/
theorem Stand.chg {k : Nat} {p : Addr} {o : MO} {u : HO} {o' : MO} (s : Stand K Ff G0 H0 S σ G H) (hM : S.M[k]? = some ⟨p, true, o⟩) (new : MRep K G (upd H p u) p o') : Stand K Ff G0 H0 ⟨S.rs, S.M.set k ⟨p, true, o'⟩, S.ρ⟩ σ G (upd H p u) := by
  have hmem := List.mem_of_getElem? hM
  obtain ⟨g1, nf, m⟩ := s.ok.m _ hmem
  have nG : ∀ b x, G b = some x → b ≠ p := fun b x e z => by
    rw [z, show G p = none from g1] at e
    cases e
  have at_ : ∀ j e, (S.M.set k ⟨p, true, o'⟩)[j]? = some e → (j = k ∧ e = ⟨p, true, o'⟩) ∨ (j ≠ k ∧ S.M[j]? = some e) := fun j e h => by
    by_cases hj : j = k
    · subst hj
      rw [List.getElem?_set_self (List.getElem?_eq_some_iff.mp hM).1] at h
      exact .inl ⟨rfl, (Option.some.inj h).symm⟩
    · rw [List.getElem?_set_ne (Ne.symm hj)] at h
      exact .inr ⟨hj, h⟩
  have nF : ∀ b x, S.rs.F b ∨ Cod b x → H b = some x → b ≠ p := fun b x f e z => f.elim (fun f => nf (z ▸ f)) fun c => by
    subst z
    exact MRep.notCod m e c
  refine ⟨s.loc, ⟨fun b x e => ?_, s.ok.sep, S.rs.st H _ s.ok.i fun b x f e => ?_, fun e he => ?_, fun j l e f h1 h2 h3 => ?_⟩, ⟨s.lie.g, fun b x e f => ?_, fun b x e => ?_, s.lie.nw⟩, fun e he hm => ?_, s.fr⟩
  · rw [upd_ne (nG b x e)]
    exact s.ok.gh _ _ e
  · rw [upd_ne (nF b x f e)]
    exact e
  · obtain ⟨j, hj⟩ := List.getElem?_of_mem he
    rcases at_ j e hj with ⟨_, z⟩ | ⟨hne, z⟩
    · subst z
      exact ⟨g1, nf, new⟩
    · obtain ⟨q1, q2, q3⟩ := s.ok.m e (List.mem_of_getElem? z)
      refine ⟨q1, q2, q3.same (Same.refl _) fun o ho => ?_⟩
      rw [upd_ne fun z2 => hne (s.ok.nd j k e _ z hM z2)]
      exact ho
  · rcases at_ j e h1 with ⟨rfl, z1⟩ | ⟨n1, z1⟩
    · rcases at_ l f h2 with ⟨rfl, z2⟩ | ⟨n2, z2⟩
      · rfl
      · exact (s.ok.nd j l _ f hM z2 (by rw [← h3, z1])).symm ▸ rfl
    · rcases at_ l f h2 with ⟨rfl, z2⟩ | ⟨n2, z2⟩
      · exact absurd (s.ok.nd j l e _ z1 hM (by rw [h3, z2])) n1
      · exact s.ok.nd j l e f z1 z2 h3
  · by_cases hb : b = p
    · subst hb
      rcases s.own _ hmem rfl with z | z
      · rw [show H0 b = none from z] at e
        cases e
      · exact absurd z f
    · rw [upd_ne hb]
      exact s.lie.h b x e f
  · by_cases hb : b = p
    · exact ⟨u, by rw [hb]; exact upd_same⟩
    · rw [upd_ne hb]
      exact s.lie.al b x e
  · obtain ⟨j, hj⟩ := List.getElem?_of_mem he
    rcases at_ j e hj with ⟨_, z⟩ | ⟨_, z⟩
    · subst z
      exact s.own ⟨p, true, o⟩ hmem rfl
    · exact s.own e (List.mem_of_getElem? z) hm
end

/-! ### statements -/
def tS (K : PySem.W.Frag) (Ff : Addr → Prop) (G0 H0 : Hp) (S : Sta) (D : AE) : TS := fun De σ H => ∃ G, Stand K Ff G0 H0 S σ G H ∧
  (∀ S' σ' G' H', D.nx S' → Stand K Ff G0 H0 S' σ' G' H' → De.nx σ' H') ∧
  (∀ rs M v a G' H', D.rt rs M a → Rep K G' v a → Ok K rs M G' H' → Lie Ff G0 H0 G' H' → (∀ e ∈ M, e.mu = true → H0 e.p = none ∨ Ff e.p) → De.rt v H') ∧
  (∀ S' σ' G' H', D.bk S' → Stand K Ff G0 H0 S' σ' G' H' → De.bk σ' H') ∧ (∀ S' σ' G' H', D.ct S' → Stand K Ff G0 H0 S' σ' G' H' → De.ct σ' H')
/-- the entry's lists, as the context has them -/
abbrev EH (X : Cx) : Type := { h : Hp // h = X.H_0 }
abbrev DS (X : Cx) (Ff : Addr → Prop) (S : Sta) (st : Stmt) (D : AE) : Prop := ∀ (G0 : Hp) (H0 : EH X), PS X st (tS X.K Ff G0 H0.1 S D)
abbrev DSs (X : Cx) (Ff : Addr → Prop) (S : Sta) (sts : List Stmt) (D : AE) : Prop := ∀ (G0 : Hp) (H0 : EH X), PSs X sts (tS X.K Ff G0 H0.1 S D)
/-- an expression that changes lists of our own on its way -/
def tX (K : PySem.W.Frag) (Ff : Addr → Prop) (G0 H0 : Hp) (S : Sta) (R : Sta → Ab → Prop) : TE := fun σ H Q => ∃ G, Stand K Ff G0 H0 S σ G H ∧ ∀ S' v a G' H', R S' a → Rep K G' v a → Stand K Ff G0 H0 S' σ G' H' → Same G G' → Q v H'
abbrev DX (X : Cx) (Ff : Addr → Prop) (S : Sta) (e : Expr) (R : Sta → Ab → Prop) : Prop := ∀ (G0 : Hp) (H0 : EH X), PE X e (tX X.K Ff G0 H0.1 S R)
section
variable {X : Cx} {Ff : Addr → Prop} {S : Sta} {rs : Rs} {M : Mem} {ρ : List (Option Ab)} {st : Stmt} {sts : List Stmt} {D : AE} {e o : Expr} {es : List Expr} {R Ra : Ab → Prop} {x : Str} {pos pos' p : Pos}
theorem ps_weak {t t' : TS} (h : PS X st t) (w : ∀ D σ H, t' D σ H → t D σ H) : PS X st t' := ⟨fun pins s σ H D I q => h.run pins s σ H D I (w D σ H q)⟩
theorem pss_weak {t t' : TS} (h : PSs X sts t) (w : ∀ D σ H, t' D σ H → t D σ H) : PSs X sts t' := ⟨fun pins s σ H D I q => h.run pins s σ H D I (w D σ H q)⟩
theorem ds_nil (h : D.nx S) : DSs X Ff S [] D := fun _ _ => pss_weak pss_nil fun _ σ H ⟨G, s, n, _⟩ => n S σ G H h s
theorem ds_cons (h : DS X Ff S st ⟨fun S' => DSs X Ff S' sts D, D.rt, D.bk, D.ct⟩) : DSs X Ff S (st :: sts) D := fun G0 H0 => by
  have h2 : PSs X sts (fun De σ H => ∃ S', DSs X Ff S' sts D ∧ tS X.K Ff G0 H0 S' D De σ H) := ⟨fun pins s σ H De I ⟨S', hS, q⟩ => (hS G0 H0).run pins s σ H De I q⟩
  refine pss_weak (pss_cons (h G0 H0) h2) fun De σ H ⟨G, s, n, r, b, c⟩ => ⟨G, s, fun S' σ' G' H' hS s' => ⟨S', hS, G', s', n, r, b, c⟩, r, b, c⟩
/-- a statement, then the rest, with a word between them -/
theorem ds_cut (Mid : Sta → Prop) (h : DS X Ff S st ⟨Mid, D.rt, D.bk, D.ct⟩) (k : ∀ S', Mid S' → DSs X Ff S' sts D) : DSs X Ff S (st :: sts) D :=
  ds_cons fun G0 H0 => ps_weak (h G0 H0) fun _ _ _ ⟨G, s, n, r, b, c⟩ => ⟨G, s, fun _ _ _ _ q => n _ _ _ _ (k _ q), r, b, c⟩
theorem ds_one (h : DS X Ff S st D) : DSs X Ff S [st] D := fun G0 H0 => pss_one (h G0 H0)
theorem ds_imp {D' : AE} (h : DS X Ff S st D) (h1 : ∀ S, D.nx S → D'.nx S) (h2 : ∀ rs M a, D.rt rs M a → D'.rt rs M a) (h3 : ∀ S, D.bk S → D'.bk S) (h4 : ∀ S, D.ct S → D'.ct S) : DS X Ff S st D' := fun G0 H0 =>
  ps_weak (h G0 H0) fun _ _ _ ⟨G, s, n, r, b, c⟩ => ⟨G, s, fun _ _ _ _ q => n _ _ _ _ (h1 _ q), fun _ _ _ _ _ _ q => r _ _ _ _ _ _ (h2 _ _ _ q), fun _ _ _ _ q => b _ _ _ _ (h3 _ q), fun _ _ _ _ q => c _ _ _ _ (h4 _ q)⟩
theorem dx_of {T : Sta → Ab → Prop} (h : DE X S.rs S.M S.ρ e R) (k : ∀ a, R a → T S a) : DX X Ff S e T := fun G0 H0 => pe_weak h fun σ H Q ⟨G, s, kk⟩ => ⟨G, s.loc, s.ok, fun v a G' H' r rep n => kk S v a G' H' (k a r) rep (s.nxt n) n.g⟩
theorem dx_new {T : List Ab → Prop} {U : Sta → Ab → Prop} (h : DN X S.rs S.M S.ρ e T) (k : ∀ q as, T as → U ⟨S.rs, ⟨q, true, .lst as⟩ :: S.M, S.ρ⟩ (.at q)) : DX X Ff S e U := fun G0 H0 =>
  pe_weak h fun σ H Q ⟨G, s, kk⟩ => ⟨G, s.loc, s.ok, fun q vs as G' H' t rep e1 g1 h0 nn => kk _ (.ref q) (.at q) G' H' (k q as t) rfl (s.push nn rep e1 g1 h0) nn.g⟩
theorem dx_imp {R R' : Sta → Ab → Prop} (h : DX X Ff S e R) (w : ∀ S' a, R S' a → R' S' a) : DX X Ff S e R' := fun G0 H0 => pe_weak (h G0 H0) fun _ _ _ ⟨G, s, k⟩ => ⟨G, s, fun S' v a G' H' r => k S' v a G' H' (w S' a r)⟩
theorem ds_setX {R : Sta → Ab → Prop} (i : Nat) (h : DX X Ff S e R) (k : ∀ S' a, R S' a → D.nx ⟨S'.rs, S'.M, S'.ρ.set i (some a)⟩) (hN : X.N.Nodup) (hi : X.N[i]? = some x := by rfl) (hx : L2.Loc X.env.scope x := by first | exact Or.inl rfl | exact Or.inr rfl)
    (hs : swapsWith e (some (.Name x pos')) pos.line X.env = pure false := by rfl) (hf : X.fn x = true ∨ X.env.scope.names.lookup x = some .local := by first | exact .inl rfl | exact .inr rfl) : DS X Ff S (.Assign [.Name x pos'] e pos) D := fun G0 H0 =>
  ps_weak (ps_set hN hi hx (h G0 H0) hs hf) fun De σ H ⟨G, s, n, _⟩ => ⟨G, s, fun S' v a G' H' r rep s' _ => n _ _ G' H' (k S' a r) (s'.set rep)⟩
theorem ds_set (i : Nat) (h : DE X S.rs S.M S.ρ e R) (k : ∀ a, R a → D.nx ⟨S.rs, S.M, S.ρ.set i (some a)⟩) (hN : X.N.Nodup) (hi : X.N[i]? = some x := by rfl) (hx : L2.Loc X.env.scope x := by first | exact Or.inl rfl | exact Or.inr rfl)
    (hs : swapsWith e (some (.Name x pos')) pos.line X.env = pure false := by rfl) (hf : X.fn x = true ∨ X.env.scope.names.lookup x = some .local := by first | exact .inl rfl | exact .inr rfl) : DS X Ff S (.Assign [.Name x pos'] e pos) D :=
  ds_setX i (R := fun S' a => S' = S ∧ R a) (dx_of h fun a r => ⟨rfl, r⟩) (fun S' a ⟨e, r⟩ => by subst e; exact k a r) hN hi hx hs hf
/-- a new list of our own gets a name -/
theorem ds_setN {T : List Ab → Prop} (i : Nat) (h : DN X S.rs S.M S.ρ e T) (k : ∀ q as, T as → D.nx ⟨S.rs, ⟨q, true, .lst as⟩ :: S.M, S.ρ.set i (some (.at q))⟩) (hN : X.N.Nodup) (hi : X.N[i]? = some x := by rfl) (hx : L2.Loc X.env.scope x := by first | exact Or.inl rfl | exact Or.inr rfl)
    (hs : swapsWith e (some (.Name x pos')) pos.line X.env = pure false := by rfl) (hf : X.fn x = true ∨ X.env.scope.names.lookup x = some .local := by first | exact .inl rfl | exact .inr rfl) : DS X Ff S (.Assign [.Name x pos'] e pos) D := fun G0 H0 =>
  ps_weak (ps_set hN hi hx h hs hf) fun De σ H ⟨G, s, n, _⟩ => ⟨G, s.loc, s.ok, fun q vs as G' H' t rep e1 g1 h0 nn => n _ _ G' H' (k q as t) ((s.push nn rep e1 g1 h0).set (a := .at q) rfl)⟩
theorem ds_retX {R : Sta → Ab → Prop} (h : DX X Ff S e R) (k : ∀ S' a, R S' a → D.rt S'.rs S'.M a) : DS X Ff S (.Return (some e) pos) D := fun G0 H0 =>
  ps_weak (ps_ret (h G0 H0)) fun De σ H ⟨G, s, _, r, _⟩ => ⟨G, s, fun S' v a G' H' q rep s' _ => r _ _ v a G' H' (k S' a q) rep s'.ok s'.lie s'.own⟩
theorem ds_ret (h : DE X S.rs S.M S.ρ e R) (k : ∀ a, R a → D.rt S.rs S.M a) : DS X Ff S (.Return (some e) pos) D := ds_retX (R := fun S' a => S' = S ∧ R a) (dx_of h fun a r => ⟨rfl, r⟩) fun S' a ⟨e, r⟩ => by subst e; exact k a r
theorem ds_retN (k : D.rt S.rs S.M aN) : DS X Ff S (.Return none pos) D := fun G0 H0 => ps_weak ps_retN fun De σ H ⟨G, s, _, r, _⟩ => r _ _ _ aN G H k Dp.non s.ok s.lie s.own
/-- a list of our own is handed back -/
theorem ds_retOwn {i k : Nat} {q : Addr} {ds : List PyData} (h : S.ρ[i]? = some (some (.at q))) (hM : S.M[k]? = some ⟨q, true, .lst (ds.map .d)⟩) (hF : ∀ b, Ff b → S.rs.F b) (r : D.rt S.rs [] (aL ds)) (hN : X.N[i]? = some x := by rfl)
    (hv : Vis X.env.scope x := by first | exact Or.inl rfl | exact Or.inr (Or.inl rfl) | exact Or.inr (Or.inr rfl)) (hd : (x == ("__debug__" : Str)) = false := by decide) (hcd : (x == ("__classdict__" : Str)) = false := by decide) :
    DS X Ff S (.Return (some (.Name x p)) pos) D := fun G0 H0 => ps_weak (ps_ret (pe_var (i := i) hN hv hd hcd)) fun De σ H ⟨G, s, _, rt, _⟩ => by
  obtain ⟨v, e, rep⟩ := s.loc.get h
  have rep : v = .ref q := rep
  subst rep
  refine ⟨_, e, ?_⟩
  obtain ⟨g1, nf, vs, e1, ra⟩ := s.ok.m _ (List.mem_of_getElem? hM)
  have g1 : G q = none := g1
  have e1 : H q = some (.lst vs) := e1
  have h0 : H0.1 q = none := by
    rcases s.own _ (List.mem_of_getElem? hM) rfl with z | z
    · exact z
    · exact absurd (hF q z) nf
  have up : Same G (upd G q (.lst vs)) := fun b u eb => by
    rw [upd_ne (ne_of_none eb g1)]
    exact eb
  refine rt S.rs [] (.ref q) (aL ds) (upd G q (.lst vs)) H r (Dp.lst upd_same (dpAll_same up _ _ (repAll_dp.mp ra))) ⟨fun b u eb => ?_, fun b f => ?_, s.ok.i, fun e he => absurd he List.not_mem_nil, fun _ _ _ _ z => by simp at z⟩ ⟨s.lie.g.trans up, s.lie.h, s.lie.al, fun b u eb => ?_⟩ (fun e he => absurd he List.not_mem_nil)
  · by_cases hb : b = q
    · subst hb
      rw [upd_same] at eb
      rw [e1, eb]
    · rw [upd_ne hb] at eb
      exact s.ok.gh _ _ eb
  · rw [upd_ne (show b ≠ q from fun z => nf (show S.rs.F q from z ▸ f))]
    exact s.ok.sep b f
  · by_cases hb : b = q
    · subst hb
      exact .inr h0
    · rw [upd_ne hb] at eb
      exact s.lie.nw _ _ eb
theorem ds_if {T : Bool → Prop} {c : Expr} {a b : List Stmt} (hc : DT X S.rs S.M S.ρ c T) (ha : T true → DSs X Ff S a D) (hb : T false → DSs X Ff S b D) : DS X Ff S (.If c a b pos) D := fun G0 H0 => by
  have ha' : PSs X a (fun De σ H => T true ∧ tS X.K Ff G0 H0 S D De σ H) := ⟨fun pins s σ H De I q => (ha q.1 G0 H0).run pins s σ H De I q.2⟩
  have hb' : PSs X b (fun De σ H => T false ∧ tS X.K Ff G0 H0 S D De σ H) := ⟨fun pins s σ H De I q => (hb q.1 G0 H0).run pins s σ H De I q.2⟩
  refine ps_weak (ps_if hc ha' hb') fun De σ H ⟨G, s, r⟩ => ⟨G, s.loc, s.ok, fun t G1 H1 ht n => ?_⟩
  cases t with
  | true => exact iteT ⟨ht, G1, s.nxt n, r⟩
  | false => exact iteF ⟨ht, G1, s.nxt n, r⟩
theorem ds_exprX {R : Sta → Ab → Prop} (h : DX X Ff S e R) (k : ∀ S' a, R S' a → D.nx S') (hs : swapsWith e none pos.line X.env = pure false := by rfl) : DS X Ff S (.Expr e pos) D := fun G0 H0 =>
  ps_weak (ps_expr (h G0 H0) hs) fun De σ H ⟨G, s, n, _⟩ => ⟨G, s, fun S' v a G' H' r _ s' _ => n S' σ G' H' (k S' a r) s'⟩
theorem ds_pass (h : D.nx S) : DS X Ff S (.Pass pos) D := fun _ _ => ps_weak ps_pass fun _ σ H ⟨G, s, n, _⟩ => n S σ G H h s
theorem ds_break (h : D.bk S) : DS X Ff S (.Break pos) D := fun _ _ => ps_weak ps_break fun _ σ H ⟨G, s, _, _, b, _⟩ => b S σ G H h s
theorem ds_continue (h : D.ct S) : DS X Ff S (.Continue pos) D := fun _ _ => ps_weak ps_continue fun _ σ H ⟨G, s, _, _, _, c⟩ => c S σ G H h s
end
/-- arguments that make lists of our own, change them -/
def tAX (K : PySem.W.Frag) (Ff : Addr → Prop) (G0 H0 : Hp) (S : Sta) (R : Sta → List Ab → Prop) : TA := fun σ H Q => ∃ G, Stand K Ff G0 H0 S σ G H ∧ ∀ S' vs as G' H', R S' as → RepAll K G' vs as → Stand K Ff G0 H0 S' σ G' H' → Same G G' → Q vs H'
abbrev DAX (X : Cx) (Ff : Addr → Prop) (S : Sta) (es : List Expr) (R : Sta → List Ab → Prop) : Prop := ∀ (G0 : Hp) (H0 : EH X), PA X es (tAX X.K Ff G0 H0.1 S R)
section
variable {X : Cx} {Ff : Addr → Prop} {S : Sta} {D : AE} {e o : Expr} {es : List Expr} {T : Sta → List Ab → Prop} {x : Str} {pos pos' p apos : Pos}
theorem dax_nil (h : T S []) : DAX X Ff S [] T := fun _ _ => pa_weak pa_nil fun σ H Q ⟨G, s, k⟩ => k S [] [] G H h trivial s (Same.refl _)
/-- the frame's values stay while an expression runs -/
theorem dax_cons (h : DX X Ff S e (fun S' a => DAX X Ff S' es (fun S'' as => T S'' (a :: as)))) (hs : starEach (e :: es) X.env = (false, eval e X.env) :: starEach es X.env := by rfl) : DAX X Ff S (e :: es) T := fun G0 H0 => by
  have h2 : PA X es (fun σ H Q => ∃ S' U, DAX X Ff S' es U ∧ tAX X.K Ff G0 H0 S' U σ H Q) := ⟨fun ps pins s σ H Q I ⟨S', U, hS, q⟩ => (hS G0 H0).run ps pins s σ H Q I q⟩
  refine pa_weak (pa_cons (h G0 H0) h2 hs) fun σ H Q ⟨G, s, k⟩ => ⟨G, s, fun S' v a G1 H1 hU rep s1 g1 => ⟨S', _, hU, G1, s1, fun S'' vs as G2 H2 t reps s2 g2 => ?_⟩⟩
  exact k S'' (v :: vs) (a :: as) G2 H2 t ⟨rep.same g2, reps⟩ s2 (g1.trans g2)
/-- a, b = e, f -/
theorem ds_par {i j : Nat} {y : Str} {a b : Expr} {pa pb pt pt2 : Pos} {kt k2 : Nat} (hc : X.calm = true) (hN : X.N.Nodup) (ha : DAX X Ff S [a, b] (fun S' as => ∃ u v, as = [u, v] ∧ D.nx ⟨S'.rs, S'.M, (S'.ρ.set i (some u)).set j (some v)⟩))
    (hi : X.N[i]? = some x := by rfl) (hj : X.N[j]? = some y := by rfl) (hij : i ≠ j := by decide) (hx : X.env.scope.names.lookup x = some .local := by rfl) (hy : X.env.scope.names.lookup y = some .local := by rfl)
    (hw : swappedStores [.Tuple [.Name x pa, .Name y pb] kt pt] (.Tuple [a, b] k2 pt2) X.env = pure (some [x, y]) := by rfl)
    (hs : swapsWithSole [.Tuple [.Name x pa, .Name y pb] kt pt] (.Tuple [a, b] k2 pt2) pos.line X.env = pure false := by rfl) : DS X Ff S (.Assign [.Tuple [.Name x pa, .Name y pb] kt pt] (.Tuple [a, b] k2 pt2) pos) D := fun G0 H0 =>
  ps_weak (ps_par hc hN hi hj hij hx hy (ha G0 H0) hw hs) fun De σ H ⟨G, s, n, _⟩ => ⟨G, s, fun S' vs as G' H' t reps s' _ => by
    obtain ⟨u, v, rfl, q⟩ := t
    match vs, reps with
    | [w1, w2], ⟨r1, r2, _⟩ => exact ⟨w1, w2, rfl, n _ _ G' H' q ((s'.set r1).set r2)⟩⟩

/-! ### lists of our own: what changes them -/
/-- a method of the list at q: what it makes of the state -/
def LM (K : PySem.W.Frag) (Ff : Addr → Prop) (r : V → List V → Hp → VK → Prop) (q : Addr) (S : Sta) (as : List Ab) (U : Sta → Ab → Prop) : Prop := ∀ G0 H0 σ G H vs (Q : VK), Stand K Ff G0 H0 S σ G H → RepAll K G vs as →
  (∀ S' v a G' H', U S' a → Rep K G' v a → Stand K Ff G0 H0 S' σ G' H' → Same G G' → Q v H') → r (.ref q) vs H Q
theorem dx_list {q : Addr} {xs : List Ab} {k : Nat} {id : String} {name : Str} {r : V → List V → Hp → VK → Prop} {U : Sta → Ab → Prop} (slot : Slot "list" name id) (hty : typeOf (.builtin id) = pure (.type "method_descriptor")) (hm : MtR X id r) (ho : DE X S.rs S.M S.ρ o (Is (.at q)))
    (h0 : S.M[k]? = some ⟨q, true, .lst xs⟩) (ha : DAX X Ff S (e :: es) (fun S' as => LM X.K Ff r q S' as U)) (hbase : attributeBase o name X.env (eval o X.env) = eval o X.env := by rfl)
    (hfew : ((backTo pos (starEach (e :: es) X.env)).all (fun x => !x.1) && (backToKw pos (keywordEach [] X.env)).all (fun x => x.1.isSome)
      && decide ((e :: es).length + ([] : List Keyword).length + (if ([] : List Keyword).isEmpty then 0 else 1) < 30)) = true := by rfl)
    (hline : (apos.endLine == pos.line) = true := by rfl) (hs : starEach (e :: es) X.env = (false, eval e X.env) :: starEach es X.env := by rfl) (hpl : (backTo pos (starEach es X.env)).any (·.1) = false := by rfl) :
    DX X Ff S (.Call (.Attribute o name apos) (e :: es) [] pos) U := fun G0 H0 =>
  pe_weak (pe_bm PySem.F.plainAttrs_list slot hty hm ho (ha G0 H0) hbase hfew hline hs hpl) fun σ H Q ⟨G, s, kk⟩ => ⟨G, s.loc, s.ok, fun v a G1 H1 ra rep n => by
    subst ra
    have rep : v = .ref q := rep
    subst rep
    have s1 := s.nxt n
    obtain ⟨_, _, vs, e1, _⟩ := s1.ok.m _ (List.mem_of_getElem? h0)
    refine ⟨.inl ⟨rfl, vs, .inl (.inl e1)⟩, G1, s1, fun S' us as G2 H2 lm reps s2 g2 => lm G0 H0 σ G2 H2 us Q s2 reps fun S'' w c G3 H3 u rep3 s3 g3 => kk S'' w c G3 H3 u rep3 s3 (n.g.trans (g2.trans g3))⟩⟩
theorem dx_list0 {q : Addr} {xs : List Ab} {k : Nat} {id : String} {name : Str} {r : V → List V → Hp → VK → Prop} {U : Sta → Ab → Prop} (slot : Slot "list" name id) (hty : typeOf (.builtin id) = pure (.type "method_descriptor")) (hm : MtR X id r) (ho : DE X S.rs S.M S.ρ o (Is (.at q)))
    (h0 : S.M[k]? = some ⟨q, true, .lst xs⟩) (ha : LM X.K Ff r q S [] U) (hbase : attributeBase o name X.env (eval o X.env) = eval o X.env := by rfl) (hline : (apos.endLine == pos.line) = true := by rfl) :
    DX X Ff S (.Call (.Attribute o name apos) [] [] pos) U := fun G0 H0 =>
  pe_weak (pe_bm0 PySem.F.plainAttrs_list slot hty hm ho hbase hline) fun σ H Q ⟨G, s, kk⟩ => ⟨G, s.loc, s.ok, fun v a G1 H1 ra rep n => by
    subst ra
    have rep : v = .ref q := rep
    subst rep
    have s1 := s.nxt n
    obtain ⟨_, _, vs, e1, _⟩ := s1.ok.m _ (List.mem_of_getElem? h0)
    exact ⟨.inl ⟨rfl, vs, .inl (.inl e1)⟩, ha G0 H0 σ G1 H1 [] Q s1 trivial fun S'' w c G3 H3 u rep3 s3 g3 => kk S'' w c G3 H3 u rep3 s3 (n.g.trans g3)⟩⟩
theorem Stand.own_lst {K : PySem.W.Frag} {Ff : Addr → Prop} {G0 H0 G H : Hp} {S : Sta} {σ : L2.St} {k : Nat} {q : Addr} {b : Bool} {xs : List Ab} (s : Stand K Ff G0 H0 S σ G H) (h : S.M[k]? = some ⟨q, b, .lst xs⟩) : ∃ vs, H q = some (.lst vs) ∧ RepAll K G vs xs := by
  obtain ⟨_, _, vs, e1, r⟩ := s.ok.m _ (List.mem_of_getElem? h)
  exact ⟨vs, e1, r⟩
theorem lt_line {n : Nat} (h : n ≤ 100000) : n < sizeLine := Nat.lt_of_le_of_lt h (by decide)
theorem lm_append {K : PySem.W.Frag} {k : Nat} {q : Addr} {xs : List Ab} {a : Ab} {U : Sta → Ab → Prop} (h : S.M[k]? = some ⟨q, true, .lst xs⟩) (hl : xs.length ≤ 100000) (u : U ⟨S.rs, S.M.set k ⟨q, true, .lst (xs ++ [a])⟩, S.ρ⟩ aN) : LM K Ff rAppend q S [a] U := fun G0 H0 σ G H vs Q s reps kk => by
  obtain ⟨ws, e1, r⟩ := s.own_lst h
  match vs, reps with
  | [v], ⟨rv, _⟩ =>
    refine ⟨q, ws, v, rfl, rfl, e1, by rw [r.length]; exact lt_line hl, kk _ .non aN G _ u Dp.non (s.chg (u := .lst (ws ++ [v])) h ⟨_, upd_same, r.append ⟨rv, trivial⟩⟩) (Same.refl _)⟩
theorem lm_popAt {K : PySem.W.Frag} {k : Nat} {q : Addr} {xs : List Ab} {i : Int} {j : Nat} {a : Ab} {U : Sta → Ab → Prop} (h : S.M[k]? = some ⟨q, true, .lst xs⟩) (h1 : -(2 ^ 63) ≤ i) (h2 : i < 2 ^ 63) (hj : seqIndex? i xs.length = some j) (ha : xs[j]? = some a)
    (u : U ⟨S.rs, S.M.set k ⟨q, true, .lst (xs.eraseIdx j)⟩, S.ρ⟩ a) : LM K Ff rPopAt q S [aI i] U := fun G0 H0 σ G H vs Q s reps kk => by
  obtain ⟨ws, e1, r⟩ := s.own_lst h
  match vs, reps with
  | [v], ⟨rv, _⟩ =>
    have rv : Dp K G v (.int i) := rv
    cases rv
    obtain ⟨y, hy, ry⟩ := r.get ha
    exact ⟨q, ws, i, j, y, rfl, rfl, e1, h1, h2, by rw [r.length]; exact hj, hy, kk _ y a G _ u ry (s.chg (u := .lst (ws.eraseIdx j)) h ⟨_, upd_same, r.erase j⟩) (Same.refl _)⟩
theorem RepAll.dropLast {K : PySem.W.Frag} {G : Hp} {vs : List V} {as : List Ab} (h : RepAll K G vs as) : RepAll K G vs.dropLast as.dropLast := by
  rw [List.dropLast_eq_take, List.dropLast_eq_take, h.length]
  exact h.take _
theorem lm_pop {K : PySem.W.Frag} {k : Nat} {q : Addr} {xs : List Ab} {a : Ab} {U : Sta → Ab → Prop} (h : S.M[k]? = some ⟨q, true, .lst xs⟩) (ha : xs[xs.length - 1]? = some a) (u : U ⟨S.rs, S.M.set k ⟨q, true, .lst xs.dropLast⟩, S.ρ⟩ a) : LM K Ff rPop q S [] U := fun G0 H0 σ G H vs Q s reps kk => by
  obtain ⟨ws, e1, r⟩ := s.own_lst h
  match vs, reps with
  | [], _ =>
    obtain ⟨y, hy, ry⟩ := r.get ha
    exact ⟨q, ws, y, rfl, rfl, e1, by rw [r.length]; exact hy, kk _ y a G _ u ry (s.chg (u := .lst ws.dropLast) h ⟨_, upd_same, r.dropLast⟩) (Same.refl _)⟩
def rInsert : V → List V → Hp → VK → Prop := fun x vs H Q => ∃ (l : Addr) (xs : List V) (i : Int) (y : V), x = .ref l ∧ vs = [.int i, y] ∧ H l = some (.lst xs) ∧ xs.length < sizeLine ∧ 0 ≤ i ∧ i < 2 ^ 63 ∧ Q .non (upd H l (.lst (xs.take i.toNat ++ [y] ++ xs.drop i.toNat)))
theorem mt_insertI : MtR X "list.insert" rInsert := mt_insert
theorem lm_insert {K : PySem.W.Frag} {k : Nat} {q : Addr} {xs : List Ab} {i : Int} {a : Ab} {U : Sta → Ab → Prop} (h : S.M[k]? = some ⟨q, true, .lst xs⟩) (hl : xs.length ≤ 100000) (h0 : 0 ≤ i) (h1 : i < 2 ^ 63)
    (u : U ⟨S.rs, S.M.set k ⟨q, true, .lst (xs.take i.toNat ++ [a] ++ xs.drop i.toNat)⟩, S.ρ⟩ aN) : LM K Ff rInsert q S [aI i, a] U := fun G0 H0 σ G H vs Q s reps kk => by
  obtain ⟨ws, e1, r⟩ := s.own_lst h
  match vs, reps with
  | [v, y], ⟨rv, ry, _⟩ =>
    have rv : Dp K G v (.int i) := rv
    cases rv
    exact ⟨q, ws, i, y, rfl, rfl, e1, by rw [r.length]; exact lt_line hl, h0, h1, kk _ .non aN G _ u Dp.non (s.chg (u := .lst (ws.take i.toNat ++ [y] ++ ws.drop i.toNat)) h ⟨_, upd_same, ((r.take _).append (show RepAll K G [y] [a] from ⟨ry, trivial⟩)).append (r.drop _)⟩) (Same.refl _)⟩
/-- xs[i] = e, of a list of our own -/
theorem ds_setItem {ei : Expr} {kp : Pos} {q : Addr} {k j : Nat} {xs : List Ab} {n : Int} {R : Ab → Prop} (he : DE X S.rs S.M S.ρ e R) (ho : DE X S.rs S.M S.ρ o (Is (.at q))) (hi : DE X S.rs S.M S.ρ ei (Is (aI n))) (hM : S.M[k]? = some ⟨q, true, .lst xs⟩) (hj : ixN xs.length n = some j)
    (kk : ∀ a, R a → D.nx ⟨S.rs, S.M.set k ⟨q, true, .lst (xs.set j a)⟩, S.ρ⟩) (hg : PG X (.Subscript o ei kp) (gSub (tD X.K S.rs S.M S.ρ (Is (.at q))) (tD X.K S.rs S.M S.ρ (Is (aI n))) rSetL)) (hs : swapsWithSole [Expr.Subscript o ei kp] e pos.line X.env = pure false := by rfl)
    (hw : swappedStores [Expr.Subscript o ei kp] e X.env = pure none := by rfl) (h1 : (assignEach [Expr.Subscript o ei kp] X.env).map (·.2) = [assign (.Subscript o ei kp) X.env] := by rfl) : DS X Ff S (.Assign [.Subscript o ei kp] e pos) D := fun G0 H0 =>
  ps_weak (ps_asg he hg hs hw h1) fun De σ H ⟨G, s, nx, _⟩ => ⟨G, s.loc, s.ok, fun v a G1 H1 ra rep1 n1 => by
    have s1 := s.nxt n1
    refine ⟨G1, s1.loc, s1.ok, fun u b G2 H2 rb rep2 n2 => ?_⟩
    subst rb
    have rep2 : u = .ref q := rep2
    subst rep2
    have s2 := s1.nxt n2
    refine ⟨G2, s2.loc, s2.ok, fun y c G3 H3 rc rep3 n3 => ?_⟩
    subst rc
    have rep3 : Dp X.K G3 y (.int n) := rep3
    cases rep3
    have s3 := s2.nxt n3
    obtain ⟨vs, e1, r⟩ := s3.own_lst hM
    exact ⟨q, vs, n, j, rfl, rfl, e1, by rw [r.length]; exact hj, nx _ σ G3 _ (kk a ra) (s3.chg (u := .lst (vs.set j v)) hM ⟨_, upd_same, r.set (rep1.same (n2.g.trans n3.g)) j⟩)⟩⟩
/-- a list display whose items make lists of our own -/
theorem dx_lst {U : Sta → Ab → Prop} (ha : DAX X Ff S es (fun S' as => as.length ≤ 100000 ∧ ∀ q, U ⟨S'.rs, ⟨q, true, .lst as⟩ :: S'.M, S'.ρ⟩ (.at q))) : DX X Ff S (.List es pos) U := fun G0 H0 =>
  pe_weak (pe_lst (ha G0 H0)) fun σ H Q ⟨G, s, kk⟩ => ⟨G, s, fun S' vs as G1 H1 ⟨hl, u⟩ reps s1 g1 => ⟨by rw [reps.length]; exact Nat.le_trans hl (by decide), fun q hq =>
    kk _ (.ref q) (.at q) G1 _ (u q) rfl (s1.push (Nxt.newM s1.ok hq) reps upd_same (s1.ok.gnone hq) hq) g1⟩⟩
end

/-! ### targets -/
def setAll (ρ : List (Option Ab)) : List Nat → List Ab → List (Option Ab)
  | i :: is, a :: as => setAll (ρ.set i (some a)) is as
  | _, _ => ρ
def tT (K : PySem.W.Frag) (is : List Nat) (T : Ab → List (Option Ab) → List (Option Ab) → Prop) : TG := fun v σ H Q => ∃ G a ρ ρ', Loc K G σ ρ ∧ Rep K G v a ∧ Same G H ∧ T a ρ ρ' ∧ ∀ σ', Loc K G σ' ρ' → (∀ vs, (∀ i ∈ is, i ∈ vs) → L2.wipe σ' vs = L2.wipe σ vs) → Q σ' H
def tTs (K : PySem.W.Frag) (is : List Nat) : TGs := fun vs σ H Q => ∃ G as ρ, Loc K G σ ρ ∧ RepAll K G vs as ∧ as.length = is.length ∧ ∀ σ', Loc K G σ' (setAll ρ is as) → (∀ us, (∀ i ∈ is, i ∈ us) → L2.wipe σ' us = L2.wipe σ us) → Q σ' H
abbrev DG (X : Cx) (tg : Expr) (is : List Nat) (T : Ab → List (Option Ab) → List (Option Ab) → Prop) : Prop := PG X tg (tT X.K is T)
abbrev DGs (X : Cx) (ts : List Expr) (is : List Nat) : Prop := PGs X ts (tTs X.K is)
section
variable {X : Cx} {x : Str} {pos : Pos} {tg : Expr} {ts : List Expr} {is : List Nat}
theorem pg_weak {t t' : TG} (h : PG X tg t) (w : ∀ v σ H Q, t' v σ H Q → t v σ H Q) : PG X tg t' := ⟨fun pins s σ H v u Q I r q => h.run pins s σ H v u Q I r (w v σ H Q q)⟩
theorem pgs_weak {t t' : TGs} (h : PGs X ts t) (w : ∀ v σ H Q, t' v σ H Q → t v σ H Q) : PGs X ts t' := ⟨fun pins s σ H v u Q I r q => h.run pins s σ H v u Q I r (w v σ H Q q)⟩
theorem dg_name (i : Nat) (hN : X.N.Nodup) (hi : X.N[i]? = some x := by rfl) (hx : L2.Loc X.env.scope x := by first | exact Or.inl rfl | exact Or.inr rfl) (hf : X.fn x = true ∨ X.env.scope.names.lookup x = some .local := by first | exact .inl rfl | exact .inr rfl) :
    DG X (.Name x pos) [i] (fun a ρ ρ' => ρ' = ρ.set i (some a)) :=
  pg_weak (pg_name hN hi hx hf) fun v σ H Q ⟨G, a, ρ, ρ', l, r, e, t, k⟩ => by
    subst t
    exact k _ (l.set r i) fun vs h => wipe_set (h i List.mem_cons_self)
theorem dgs_nil : DGs X [] [] := pgs_weak pgs_nil fun vs σ H Q ⟨G, as, ρ, l, r, e, k⟩ => by
  have e : as = [] := List.length_eq_zero_iff.mp e
  subst e
  match vs, r with
  | [], _ => exact ⟨rfl, k σ l fun _ _ => rfl⟩
theorem dgs_cons (i : Nat) (h : DGs X ts is) (hN : X.N.Nodup) (hi : X.N[i]? = some x := by rfl) (hx : L2.Loc X.env.scope x := by first | exact Or.inl rfl | exact Or.inr rfl) (hf : X.fn x = true ∨ X.env.scope.names.lookup x = some .local := by first | exact .inl rfl | exact .inr rfl) :
    DGs X (.Name x pos :: ts) (i :: is) := pgs_weak (pgs_cons (pg_name hN hi hx hf) h) fun vs σ H Q ⟨G, as, ρ, l, r, e, k⟩ => by
  match as, vs, r with
  | a :: as, v :: vs, ⟨r1, r2⟩ =>
    refine ⟨v, vs, rfl, G, as, _, l.set r1 i, r2, by simpa using e, fun σ' l' w => k σ' l' fun us hu => ?_⟩
    rw [w us fun j hj => hu j (List.mem_cons_of_mem _ hj)]
    exact wipe_set (hu i List.mem_cons_self)
  | [], _, _ => cases e
theorem dg_tup {k : Nat} (hc : X.calm = true) (h : DGs X ts is) (hn : (assignEach ts X.env).length = is.length := by rfl) (hst : (assignEach ts X.env).findIdx? (·.1) = none := by rfl) :
    DG X (.Tuple ts k pos) is (fun a ρ ρ' => ∃ ds, a = aT ds ∧ ds.length = is.length ∧ ρ' = setAll ρ is (ds.map .d)) :=
  pg_weak (pg_tup hc h hn hst) fun v σ H Q ⟨G, a, ρ, ρ', l, r, e, t, kk⟩ => by
    obtain ⟨ds, rfl, hl, rfl⟩ := t
    have r : Dp X.K G v (.tuple ds) := r
    cases r with
    | tup hs ha =>
      have ra := repAll_dp.mpr ha
      refine ⟨_, _, rfl, sqT_same e hs, by rw [ra.length, List.length_map, hl], G, _, ρ, l, ra, by rw [List.length_map, hl], kk⟩
end

section
variable {X : Cx} {Ff : Addr → Prop} {S : Sta} {D : AE} {tg e : Expr} {is : List Nat} {T : Ab → List (Option Ab) → List (Option Ab) → Prop} {R : Ab → Prop} {pos : Pos}
/-- target = e, the target of any form -/
theorem ds_asg (h : DE X S.rs S.M S.ρ e R) (hg : DG X tg is T) (k : ∀ a, R a → ∃ ρ', T a S.ρ ρ' ∧ D.nx ⟨S.rs, S.M, ρ'⟩) (hs : swapsWithSole [tg] e pos.line X.env = pure false := by rfl) (hw : swappedStores [tg] e X.env = pure none := by rfl)
    (h1 : (assignEach [tg] X.env).map (·.2) = [assign tg X.env] := by rfl) : DS X Ff S (.Assign [tg] e pos) D := fun G0 H0 =>
  ps_weak (ps_asg h hg hs hw h1) fun De σ H ⟨G, s, n, _⟩ => ⟨G, s.loc, s.ok, fun v a G' H' r rep nn => by
    obtain ⟨ρ', t, q⟩ := k a r
    have s' := s.nxt nn
    exact ⟨G', a, S.ρ, ρ', s'.loc, rep, s'.ok.gh, t, fun σ' l' _ => n _ σ' G' H' q ⟨l', s'.ok, s'.lie, s'.own, s'.fr⟩⟩⟩
end

/-! ### what is walked -/
def ItOk (K : PySem.W.Frag) (G : Hp) (J : It) (n : Nat) (item : Nat → Ab → Prop) : Prop := ∀ rs M G1 H1, Same G G1 → Ok K rs M G1 H1 →
  (∀ i, i < n → J.go i H1 ∧ ∀ x H2, J.yld i H1 x H2 → ∃ a G2, item i a ∧ Rep K G2 x a ∧ Nxt rs G1 H1 G2 H2) ∧ J.stop n H1
def tDI (K : PySem.W.Frag) (rs : Rs) (M : Mem) (ρ : List (Option Ab)) (RI : Nat → (Nat → Ab → Prop) → Prop) : TI := fun σ H R => ∃ G, Loc K G σ ρ ∧ Ok K rs M G H ∧ ∀ J n item G' H', RI n item → ItOk K G' J n item → Nxt rs G H G' H' → R J H'
abbrev DI (X : Cx) (rs : Rs) (M : Mem) (ρ : List (Option Ab)) (tg iter : Expr) (RI : Nat → (Nat → Ab → Prop) → Prop) : Prop := PI X tg iter (tDI X.K rs M ρ RI)
section
variable {X : Cx} {rs : Rs} {M : Mem} {ρ : List (Option Ab)} {tg e iter : Expr} {R : Ab → Prop} {RI : Nat → (Nat → Ab → Prop) → Prop} {pos p : Pos} {es : List Expr}
theorem pi_weak {w w' : TI} (h : PI X tg iter w) (k : ∀ σ H R, w' σ H R → w σ H R) : PI X tg iter w' := ⟨fun pins s σ H R I q => h.run pins s σ H R I (k σ H R q)⟩
theorem itOk_list {K : PySem.W.Frag} {G : Hp} {a : Addr} {xs : List V} {as : List Ab} (h : SqL K G a xs) (r : RepAll K G xs as) : ItOk K G (Itl K a) as.length (fun i y => as[i]? = some y) := fun rs M G1 H1 e ok => by
  have h1 : SqL K H1 a xs := sqL_same (e.trans ok.gh) h
  refine ⟨fun i hi => ?_, xs, h1, by rw [r.length]; exact Nat.le_refl _⟩
  have hx : xs[i]? = some (xs[i]'(by rw [r.length]; exact hi)) := List.getElem?_eq_getElem _
  refine ⟨⟨xs, _, h1, hx⟩, fun x H2 y => ?_⟩
  obtain ⟨rfl, y⟩ := y
  obtain ⟨b, hb, rb⟩ := r.get' (y xs h1)
  exact ⟨b, G1, hb, rb.same e, Nxt.rfl ok⟩
theorem itOk_tup {K : PySem.W.Frag} {G : Hp} {a : Addr} {xs : List V} {as : List Ab} (h : SqT K G a xs) (r : RepAll K G xs as) : ItOk K G (Itt K a) as.length (fun i y => as[i]? = some y) := fun rs M G1 H1 e ok => by
  have h1 : SqT K H1 a xs := sqT_same (e.trans ok.gh) h
  refine ⟨fun i hi => ?_, xs, h1, by rw [r.length]; exact Nat.le_refl _⟩
  have hx : xs[i]? = some (xs[i]'(by rw [r.length]; exact hi)) := List.getElem?_eq_getElem _
  refine ⟨⟨xs, _, h1, hx⟩, fun x H2 y => ?_⟩
  obtain ⟨rfl, y⟩ := y
  obtain ⟨b, hb, rb⟩ := r.get' (y xs h1)
  exact ⟨b, G1, hb, rb.same e, Nxt.rfl ok⟩
theorem itOk_rng {K : PySem.W.Frag} {G : Hp} (lo : Int) (n : Nat) : ItOk K G (Itr lo n) n (fun i y => y = aI (lo + i)) := fun rs M G1 H1 e ok => by
  refine ⟨fun i hi => ⟨hi, fun x H2 y => ?_⟩, Nat.le_refl _⟩
  obtain ⟨rfl, rfl⟩ := y
  exact ⟨_, G1, rfl, Dp.int _, Nxt.rfl ok⟩
abbrev AtD (ds : List PyData) : Nat → Ab → Prop := fun i y => (ds.map Ab.d)[i]? = some y
theorem di_list (h : DE X rs M ρ e R) (w : ∀ y, R y → ∃ ds, y = aL ds ∧ RI ds.length (AtD ds)) : DI X rs M ρ tg e RI :=
  pi_weak (pi_list h) fun σ H T ⟨G, l, ok, k⟩ => ⟨G, l, ok, fun v y G1 H1 ry rep n => by
    obtain ⟨ds, rfl, ri⟩ := w y ry
    have rep : Dp X.K G1 v (.list ds) := rep
    cases rep with
    | lst hs ha =>
      have it := itOk_list (.inl (.inl hs)) (repAll_dp.mpr ha)
      rw [List.length_map] at it
      exact ⟨_, rfl, ⟨_, .inl (.inl (n.gh _ _ hs))⟩, k _ _ _ G1 H1 ri it n⟩⟩
/-- the script, walked or read -/
abbrev aScr (K : PySem.W.Frag) (ns : List Int) : Ab := .raw fun v H => ∃ a, v = .ref a ∧ SqL K H a (ns.map V.int)
theorem di_tup (h : DE X rs M ρ e R) (w : ∀ y, R y → ∃ ds, y = aT ds ∧ RI ds.length (AtD ds)) : DI X rs M ρ tg e RI :=
  pi_weak (pi_tup h) fun σ H T ⟨G, l, ok, k⟩ => ⟨G, l, ok, fun v y G1 H1 ry rep n => by
    obtain ⟨ds, rfl, ri⟩ := w y ry
    have rep : Dp X.K G1 v (.tuple ds) := rep
    cases rep with
    | tup hs ha =>
      have it := itOk_tup hs (repAll_dp.mpr ha)
      rw [List.length_map] at it
      exact ⟨_, rfl, ⟨_, sqT_same n.gh hs⟩, k _ _ _ G1 H1 ri it n⟩⟩
abbrev AtR (lo : Int) : Nat → Ab → Prop := fun i y => y = aI (lo + (i : Int))
theorem di_range1 {T : List Ab → Prop} (hg : Gl X "range") (hm : X.mg "range" = none) (ha : DA X rs M ρ [e] T) (w : ∀ as, T as → ∃ n : Int, as = [aI n] ∧ -(2 ^ 62) ≤ n ∧ n < 2 ^ 62 ∧ RI n.toNat (AtR 0)) (hs : starEach [e] X.env = [(false, eval e X.env)] := by rfl) :
    DI X rs M ρ tg (.Call (.Name "range" p) [e] [] pos) RI :=
  pi_weak (pi_range1 hg hm ha hs) fun σ H T ⟨G, l, ok, k⟩ => ⟨G, l, ok, fun vs as G1 H1 ry rep n => by
    obtain ⟨m, rfl, h1, h2, ri⟩ := w as ry
    match vs, rep with
    | [v], ⟨r, _⟩ =>
      have r : Dp X.K G1 v (.int m) := r
      cases r
      exact ⟨m, rfl, h1, h2, k _ _ _ G1 H1 ri (itOk_rng 0 _) n⟩⟩
theorem di_range2 {f : Expr} {T : List Ab → Prop} (hg : Gl X "range") (hm : X.mg "range" = none) (ha : DA X rs M ρ [e, f] T)
    (w : ∀ as, T as → ∃ i j : Int, as = [aI i, aI j] ∧ (-(2 ^ 62) ≤ i ∧ i < 2 ^ 62 ∧ -(2 ^ 62) ≤ j ∧ j < 2 ^ 62) ∧ RI (j - i).toNat (AtR i)) (hs : starEach [e, f] X.env = [(false, eval e X.env), (false, eval f X.env)] := by rfl) (hs2 : starEach [f] X.env = [(false, eval f X.env)] := by rfl) :
    DI X rs M ρ tg (.Call (.Name "range" p) [e, f] [] pos) RI :=
  pi_weak (pi_range2 hg hm ha hs hs2) fun σ H T ⟨G, l, ok, k⟩ => ⟨G, l, ok, fun vs as G1 H1 ry rep n => by
    obtain ⟨i, j, rfl, h1, ri⟩ := w as ry
    match vs, rep with
    | [v, u], ⟨r, r2, _⟩ =>
      have r : Dp X.K G1 v (.int i) := r
      cases r
      have r2 : Dp X.K G1 u (.int j) := r2
      cases r2
      exact ⟨i, j, rfl, h1, k _ _ _ G1 H1 ri (itOk_rng i _) n⟩⟩
/-- zip of two tuples or of two lists -/
abbrev AtZ (ds es : List PyData) : Nat → Ab → Prop := fun i y => ∃ d e, ds[i]? = some d ∧ es[i]? = some e ∧ y = aT [d, e]
theorem pair_nxt {K : PySem.W.Frag} {rs : Rs} {M : Mem} {G H : Hp} {T : Addr} {x y : V} {d e : PyData} (ok : Ok K rs M G H) (hT : H T = none) (rx : Dp K G x d) (ry : Dp K G y e) :
    Rep K (upd G T (.tup [x, y])) (.ref T) (aT [d, e]) ∧ Nxt rs G H (upd G T (.tup [x, y])) (upd H T (.tup [x, y])) := by
  have n := Nxt.new (o := .tup [x, y]) ok hT
  exact ⟨Dp.tup (.inl (.inl upd_same)) (.cons (dp_same n.g _ _ rx) (.cons (dp_same n.g _ _ ry) .nil)), n⟩
theorem getD_some {α : Type} {xs : List α} {i : Nat} (h : i < xs.length) : ∃ x, xs[i]? = some x := ⟨xs[i], List.getElem?_eq_getElem h⟩
theorem itOk_zipT {K : PySem.W.Frag} {G : Hp} {a b : Addr} {xs ys : List V} {ds es : List PyData} (hx : SqT K G a xs) (rx : DpAll K G xs ds) (hy : SqT K G b ys) (ry : DpAll K G ys es) : ItOk K G (ItzT K a b) (min ds.length es.length) (AtZ ds es) := fun rs M G1 H1 e ok => by
  have h1 : SqT K H1 a xs := sqT_same (e.trans ok.gh) hx
  have h2 : SqT K H1 b ys := sqT_same (e.trans ok.gh) hy
  have rx' := repAll_dp.mpr rx
  have ry' := repAll_dp.mpr ry
  have lx : xs.length = ds.length := by rw [rx'.length, List.length_map]
  have ly : ys.length = es.length := by rw [ry'.length, List.length_map]
  refine ⟨fun i hi => ?_, xs, ys, h1, h2, by omega⟩
  obtain ⟨x, ex⟩ := getD_some (xs := xs) (i := i) (by omega)
  obtain ⟨y, ey⟩ := getD_some (xs := ys) (i := i) (by omega)
  refine ⟨⟨xs, ys, x, y, h1, h2, ex, ey⟩, fun v H2 yl => ?_⟩
  obtain ⟨T, x', y', rfl, hT, rfl, f1, f2⟩ := yl
  obtain ⟨d', hd, rd⟩ := rx'.get' (f1 xs h1)
  obtain ⟨e', he, re⟩ := ry'.get' (f2 ys h2)
  rw [List.getElem?_map] at hd he
  cases qd : ds[i]? with
  | none =>
    rw [qd] at hd
    cases hd
  | some d =>
    cases qe : es[i]? with
    | none =>
      rw [qe] at he
      cases he
    | some e2 =>
      rw [qd] at hd
      rw [qe] at he
      have hd : Ab.d d = d' := Option.some.inj hd
      have he : Ab.d e2 = e' := Option.some.inj he
      subst hd he
      obtain ⟨r, n⟩ := pair_nxt ok hT (dp_same e _ _ rd) (dp_same e _ _ re)
      exact ⟨_, _, ⟨d, e2, qd, qe, rfl⟩, r, n⟩
theorem itOk_zipL {K : PySem.W.Frag} {G : Hp} {a b : Addr} {xs ys : List V} {ds es : List PyData} (hx : SqL K G a xs) (rx : DpAll K G xs ds) (hy : SqL K G b ys) (ry : DpAll K G ys es) : ItOk K G (Itz K a b) (min ds.length es.length) (AtZ ds es) := fun rs M G1 H1 e ok => by
  have h1 : SqL K H1 a xs := sqL_same (e.trans ok.gh) hx
  have h2 : SqL K H1 b ys := sqL_same (e.trans ok.gh) hy
  have rx' := repAll_dp.mpr rx
  have ry' := repAll_dp.mpr ry
  have lx : xs.length = ds.length := by rw [rx'.length, List.length_map]
  have ly : ys.length = es.length := by rw [ry'.length, List.length_map]
  refine ⟨fun i hi => ?_, xs, ys, h1, h2, by omega⟩
  obtain ⟨x, ex⟩ := getD_some (xs := xs) (i := i) (by omega)
  obtain ⟨y, ey⟩ := getD_some (xs := ys) (i := i) (by omega)
  refine ⟨⟨xs, ys, x, y, h1, h2, ex, ey⟩, fun v H2 yl => ?_⟩
  obtain ⟨T, x', y', rfl, hT, rfl, f1, f2⟩ := yl
  obtain ⟨d', hd, rd⟩ := rx'.get' (f1 xs h1)
  obtain ⟨e', he, re⟩ := ry'.get' (f2 ys h2)
  rw [List.getElem?_map] at hd he
  cases qd : ds[i]? with
  | none =>
    rw [qd] at hd
    cases hd
  | some d =>
    cases qe : es[i]? with
    | none =>
      rw [qe] at he
      cases he
    | some e2 =>
      rw [qd] at hd
      rw [qe] at he
      have hd : Ab.d d = d' := Option.some.inj hd
      have he : Ab.d e2 = e' := Option.some.inj he
      subst hd he
      obtain ⟨r, n⟩ := pair_nxt ok hT (dp_same e _ _ rd) (dp_same e _ _ re)
      exact ⟨_, _, ⟨d, e2, qd, qe, rfl⟩, r, n⟩
theorem di_zip {f : Expr} {elts : List Expr} {kk : Nat} {tpos : Pos} {T : List Ab → Prop} (hg : Gl X "zip") (hm : X.mg "zip" = none) (ha : DA X rs M ρ [e, f] T) (w : ∀ as, T as → ∃ ds es, (as = [aT ds, aT es] ∨ as = [aL ds, aL es]) ∧ RI (min ds.length es.length) (AtZ ds es))
    (hs : starEach [e, f] X.env = (false, eval e X.env) :: starEach [f] X.env := by rfl) (hpl : (backTo pos (starEach [f] X.env)).any (·.1) = false := by rfl) : DI X rs M ρ (.Tuple elts kk tpos) (.Call (.Name "zip" p) [e, f] [] pos) RI :=
  pi_weak (pi_zipA hg hm ha hs hpl) fun σ H T ⟨G, l, ok, k⟩ => ⟨G, l, ok, fun vs as G1 H1 ry rep n => by
    obtain ⟨ds, es, h, ri⟩ := w as ry
    rcases h with rfl | rfl
    · match vs, rep with
      | [v, u], ⟨r, r2, _⟩ =>
        have r : Dp X.K G1 v (.tuple ds) := r
        have r2 : Dp X.K G1 u (.tuple es) := r2
        cases r with
        | tup hx rx =>
          cases r2 with
          | tup hy ry => exact ⟨_, _, _, _, rfl, .inr ⟨sqT_same n.gh hx, sqT_same n.gh hy, k _ _ _ G1 H1 ri (itOk_zipT hx rx hy ry) n⟩⟩
    · match vs, rep with
      | [v, u], ⟨r, r2, _⟩ =>
        have r : Dp X.K G1 v (.list ds) := r
        have r2 : Dp X.K G1 u (.list es) := r2
        cases r with
        | lst hx rx =>
          cases r2 with
          | lst hy ry => exact ⟨_, _, _, _, rfl, .inl ⟨.inl (.inl (n.gh _ _ hx)), .inl (.inl (n.gh _ _ hy)), k _ _ _ G1 H1 ri (itOk_zipL (.inl (.inl hx)) rx (.inl (.inl hy)) ry) n⟩⟩⟩
/-- enumerate of a list -/
abbrev AtE (ds : List PyData) : Nat → Ab → Prop := fun i y => ∃ d, ds[i]? = some d ∧ y = aT [.int (i : Int), d]
theorem itOk_enum {K : PySem.W.Frag} {G : Hp} {a : Addr} {xs : List V} {ds : List PyData} (hx : SqL K G a xs) (rx : DpAll K G xs ds) : ItOk K G (Ite K a) ds.length (AtE ds) := fun rs M G1 H1 e ok => by
  have h1 : SqL K H1 a xs := sqL_same (e.trans ok.gh) hx
  have rx' := repAll_dp.mpr rx
  have lx : xs.length = ds.length := by rw [rx'.length, List.length_map]
  refine ⟨fun i hi => ?_, xs, h1, by omega⟩
  obtain ⟨x, ex⟩ := getD_some (xs := xs) (i := i) (by omega)
  refine ⟨⟨xs, x, h1, ex⟩, fun v H2 yl => ?_⟩
  obtain ⟨T, x', rfl, hT, rfl, f1⟩ := yl
  obtain ⟨d', hd, rd⟩ := rx'.get' (f1 xs h1)
  rw [List.getElem?_map] at hd
  cases qd : ds[i]? with
  | none =>
    rw [qd] at hd
    cases hd
  | some d =>
    rw [qd] at hd
    have hd : Ab.d d = d' := Option.some.inj hd
    subst hd
    obtain ⟨r, n⟩ := pair_nxt (x := .int (i : Int)) (d := .int (i : Int)) ok hT (Dp.int _) (dp_same e _ _ rd)
    exact ⟨_, _, ⟨d, qd, rfl⟩, r, n⟩
theorem di_enumL {elts : List Expr} {kk : Nat} {tpos : Pos} {T : List Ab → Prop} (hg : Gl X "enumerate") (hm : X.mg "enumerate" = none) (ha : DA X rs M ρ [e] T) (w : ∀ as, T as → ∃ ds, as = [aL ds] ∧ RI ds.length (AtE ds)) (hs : starEach [e] X.env = [(false, eval e X.env)] := by rfl) :
    DI X rs M ρ (.Tuple elts kk tpos) (.Call (.Name "enumerate" p) [e] [] pos) RI :=
  pi_weak (pi_enum hg hm ha hs) fun σ H T ⟨G, l, ok, k⟩ => ⟨G, l, ok, fun vs as G1 H1 ry rep n => by
    obtain ⟨ds, rfl, ri⟩ := w as ry
    match vs, rep with
    | [v], ⟨r, _⟩ =>
      have r : Dp X.K G1 v (.list ds) := r
      cases r with
      | lst hx rx => exact ⟨_, _, rfl, .inl (.inl (n.gh _ _ hx)), k _ _ _ G1 H1 ri (itOk_enum (.inl (.inl hx)) rx) n⟩⟩
end

/-! ### for -/
section
variable {K : PySem.W.Frag} {Ff : Addr → Prop} {G0 H0 G1 H1 G H : Hp} {S : Sta} {σ : L2.St}
theorem Lie.up (l : Lie Ff G0 H0 G H) (a : Same G0 G1) (b : Same G1 G) : Lie Ff G1 H0 G H := ⟨b, l.h, l.al, fun c o e => (l.nw c o e).imp (fun z => a _ _ z) id⟩
theorem Lie.down (l : Lie Ff G1 H0 G H) (l1 : Lie Ff G0 H0 G1 H1) : Lie Ff G0 H0 G H := ⟨l1.g.trans l.g, l.h, l.al, fun c o e => (l.nw c o e).elim (fun z => l1.nw c o z) Or.inr⟩
theorem Stand.up (s : Stand K Ff G0 H0 S σ G H) (a : Same G0 G1) (b : Same G1 G) : Stand K Ff G1 H0 S σ G H := ⟨s.loc, s.ok, s.lie.up a b, s.own, s.fr⟩
theorem Stand.down (s : Stand K Ff G1 H0 S σ G H) (l1 : Lie Ff G0 H0 G1 H1) : Stand K Ff G0 H0 S σ G H := ⟨s.loc, s.ok, s.lie.down l1, s.own, s.fr⟩
end
section
variable {X : Cx} {Ff : Addr → Prop} {S : Sta} {D : AE} {tg iter : Expr} {body : List Stmt} {pos : Pos} {is : List Nat} {T : Ab → List (Option Ab) → List (Option Ab) → Prop} {RI : Nat → (Nat → Ab → Prop) → Prop}
/-- Inv n item i S: between two turns; what holds behind a break is what is to hold behind the loop -/
theorem ds_for (Inv : Nat → (Nat → Ab → Prop) → Nat → Sta → Prop) (hi : DI X S.rs S.M S.ρ tg iter RI) (hg : DG X tg is T) (h0 : ∀ n item, RI n item → Inv n item 0 S)
    (hs : ∀ n item i S' a, RI n item → i < n → Inv n item i S' → item i a → ∃ ρ', T a S'.ρ ρ' ∧ DSs X Ff ⟨S'.rs, S'.M, ρ'⟩ body ⟨Inv n item (i + 1), D.rt, D.nx, Inv n item (i + 1)⟩) (hd : ∀ n item S', RI n item → Inv n item n S' → D.nx S')
    (hp : PassesOwn (model X.prog X.w) X.A X.env X.xe) (hc : X.calm = true) (hf : ∀ x, foldedSetIterable iter X.env x = pure x := by intro _; rfl) : DS X Ff S (.For tg iter body [] pos) D := fun G0 H0 => by
  have hb : PSs X body (fun De σ H => ∃ S' D' G0, DSs X Ff S' body D' ∧ tS X.K Ff G0 H0 S' D' De σ H) := ⟨fun pins s σ H De I ⟨S', D', G0, hS, q⟩ => (hS G0 H0).run pins s σ H De I q⟩
  refine ps_weak (ps_for hp hc hi hg hb hf) fun De σ H ⟨G, s, nx, rt, bk, ct⟩ => ⟨G, s.loc, s.ok, fun J n item G1 H1 ri it n1 => ?_⟩
  have s1 := s.nxt n1
  refine ⟨fun i m σ H => m = n - i ∧ i ≤ n ∧ ∃ S' G2, Inv n item i S' ∧ Stand X.K Ff G1 H0 S' σ G2 H, ⟨n, rfl, Nat.zero_le _, S, G1, h0 n item ri, s1.up s1.lie.g (Same.refl _)⟩, fun i m σ2 H2 ⟨em, hi, S', G2, inv, st⟩ => ?_⟩
  obtain ⟨go, stop⟩ := it S'.rs S'.M G2 H2 st.lie.g st.ok
  by_cases hlt : i < n
  · obtain ⟨g, yl⟩ := go i hlt
    refine .inr ⟨g, fun σ' H' => ∃ S' G2, Inv n item (i + 1) S' ∧ Stand X.K Ff G1 H0 S' σ' G2 H', fun σ' H' ⟨S3, G3, inv3, st3⟩ => ⟨n - (i + 1), by omega, rfl, hlt, S3, G3, inv3, st3⟩, fun x H3 y => ?_⟩
    obtain ⟨a, G3, ia, rep, n3⟩ := yl x H3 y
    obtain ⟨ρ', ht, hbody⟩ := hs n item i S' a ri hlt inv ia
    have st3 := st.nxt n3
    exact ⟨G3, a, S'.ρ, ρ', st3.loc, rep, st3.ok.gh, ht, fun σ' l' _ => ⟨⟨S'.rs, S'.M, ρ'⟩, _, G1, hbody, G3, ⟨l', st3.ok, st3.lie, st3.own, st3.fr⟩,
      fun S4 σ4 G4 H4 q s4 => ⟨S4, G4, q, s4⟩, fun rs M v b G4 H4 q rep4 ok4 l4 ow4 => rt rs M v b G4 H4 q rep4 ok4 (l4.down s1.lie) ow4, fun S4 σ4 G4 H4 q s4 => nx S4 σ4 G4 H4 q (s4.down s1.lie), fun S4 σ4 G4 H4 q s4 => ⟨S4, G4, q, s4⟩⟩⟩
  · have e1 : i = n := by omega
    subst e1
    exact .inl ⟨stop, nx S' σ2 G2 H2 (hd _ item S' ri inv) (st.down s1.lie)⟩
/-- Inv m S: m falls at each turn -/
theorem ds_while {c : Expr} (Inv : Nat → Sta → Prop) (m0 : Nat) (h0 : Inv m0 S) (hs : ∀ m S', Inv m S' → ∃ T : Bool → Prop, DT X S'.rs S'.M S'.ρ c T ∧
      (T true → DSs X Ff S' body ⟨fun S2 => ∃ m', m' < m ∧ Inv m' S2, D.rt, D.nx, fun S2 => ∃ m', m' < m ∧ Inv m' S2⟩) ∧ (T false → D.nx S')) (hp : PassesOwn (model X.prog X.w) X.A X.env X.xe) : DS X Ff S (.While c body [] pos) D := fun G0 H0 => by
  have hc : PT X c (fun σ H Q => ∃ (S' : Sta) (T : Bool → Prop), DT X S'.rs S'.M S'.ρ c T ∧ tDT X.K S'.rs S'.M S'.ρ T σ H Q) := ⟨fun pins s σ H Q I ⟨S', T, h, q⟩ => h.run pins s σ H Q I q⟩
  have hb : PSs X body (fun De σ H => ∃ S' D', DSs X Ff S' body D' ∧ tS X.K Ff G0 H0 S' D' De σ H) := ⟨fun pins s σ H De I ⟨S', D', hS, q⟩ => (hS G0 H0).run pins s σ H De I q⟩
  refine ps_weak (ps_while hp hc hb) fun De σ H ⟨G, s, nx, rt, bk, ct⟩ => ⟨fun m σ H => ∃ S' G, Inv m S' ∧ Stand X.K Ff G0 H0 S' σ G H, ⟨m0, S, G, h0, s⟩, fun m σ2 H2 ⟨S', G2, inv, st⟩ => ?_⟩
  obtain ⟨T, hT, h1, h2⟩ := hs m S' inv
  refine ⟨S', T, hT, G2, st.loc, st.ok, fun b G3 H3 hb n3 => ?_⟩
  have st3 := st.nxt n3
  cases b with
  | true =>
    refine iteT ⟨fun σ' H' => ∃ S4 G4 m', m' < m ∧ Inv m' S4 ∧ Stand X.K Ff G0 H0 S4 σ' G4 H', fun σ' H' ⟨S4, G4, m', hm, inv4, st4⟩ => ⟨m', hm, S4, G4, inv4, st4⟩, S', _, h1 hb, G3, st3, ?_, rt, nx, ?_⟩
    · exact fun S4 σ4 G4 H4 ⟨m', hm, q⟩ s4 => ⟨S4, G4, m', hm, q, s4⟩
    · exact fun S4 σ4 G4 H4 ⟨m', hm, q⟩ s4 => ⟨S4, G4, m', hm, q, s4⟩
  | false => exact iteF (nx S' σ2 G3 H3 (h2 hb) st3)
end

/-! ### comprehensions -/
section
variable {X : Cx} {rs : Rs} {M : Mem} {ρ : List (Option Ab)} {tg iter elt : Expr} {ifs : List Expr} {scope : Scope} {own : List (Str × Nat)} {pos : Pos} {is : List Nat} {T : Ab → List (Option Ab) → List (Option Ab) → Prop} {RI : Nat → (Nat → Ab → Prop) → Prop} {U : List Ab → Prop}
abbrev AllBlk (X : Cx) (scope : Scope) (P : Cx → Prop) : Prop := ∀ (s : Shared) (H : Hp) (C : Addr) (cl : List (Str × Addr)) (fp : List Addr), P (X.blk s H scope (compEnvC scope cl C X.env) fp)
/-- a clause's tests -/
abbrev DTs (X : Cx) (rs : Rs) (M : Mem) (ρ : List (Option Ab)) (ifs : List Expr) (R : Bool → Prop) : Prop := PTs X ifs (tDT X.K rs M ρ R)
theorem dts_nil : DTs X rs M ρ [] (fun b => b = true) := ⟨fun pins s σ H Q I ⟨G, l, ok, k⟩ => pts_nil.run pins s σ H Q I (k true G H rfl (Nxt.rfl ok))⟩
theorem dts_one {c : Expr} {R : Bool → Prop} (h : DT X rs M ρ c R) : DTs X rs M ρ [c] R := pts_one h
/-- the reading of a comprehension: Acc n item i acc between two turns -/
theorem lc_read (Acc : Nat → (Nat → Ab → Prop) → Nat → List Ab → Prop) (h0 : ∀ n item, RI n item → Acc n item 0 [])
    (hs : ∀ n item i acc a, RI n item → i < n → Acc n item i acc → item i a → acc.length ≤ 100000 ∧ ∃ ρ' B, T a (wipeA ρ (own.map (·.2))) ρ' ∧ AllBlk X scope (fun Y => DTs Y rs M ρ' ifs B) ∧
      (B true → AllBlk X scope (fun Y => DE Y rs M ρ' elt (fun z => Acc n item (i + 1) (acc ++ [z])))) ∧ (B false → Acc n item (i + 1) acc)) (hd : ∀ n item acc, RI n item → Acc n item n acc → U acc) (his : ∀ i ∈ is, i ∈ own.map (·.2)) {σ : L2.St} {H : Hp} {Q : VK}
    (h : tDN X.K rs M ρ U σ H Q) :
    tLc (tDI X.K rs M ρ RI) (tT X.K is T) (fun σ H Q => ∃ ρ' B, AllBlk X scope (fun Y => DTs Y rs M ρ' ifs B) ∧ tDT X.K rs M ρ' B σ H Q) (fun σ H Q => ∃ ρ' R, AllBlk X scope (fun Y => DE Y rs M ρ' elt R) ∧ tD X.K rs M ρ' R σ H Q) (own.map (·.2)) σ H Q := by
  obtain ⟨G, l, ok, k⟩ := h
  refine ⟨G, l, ok, fun J n item G1 H1 ri it n1 p hp => ?_⟩
  have ok1 := ok.nxt n1
  have hp0 := fresh_of ok n1 hp
  have nF : ∀ {H}, rs.I H → H p = none → ¬ rs.F p := fun {H'} i e f => by
    obtain ⟨o, z⟩ := rs.has _ _ i f
    rw [e] at z
    cases z
  have nFp : ¬ rs.F p := nF ok1.i hp
  -- between two turns
  refine ⟨fun i m H => m = n - i ∧ i ≤ n ∧ ∃ acc vs G2, Acc n item i acc ∧ RepAll X.K G2 vs acc ∧ H p = some (.lst vs) ∧ G2 p = none ∧ Nxt rs G1 H1 G2 H, ⟨n, rfl, Nat.zero_le _, [], [], G1, h0 n item ri, trivial, upd_same, ok1.gnone hp, Nxt.newM ok1 hp⟩, fun i m H2 ⟨em, hi, acc, vs, G2, ha, reps, e2, g2, n2⟩ => ?_⟩
  have ok2 := ok1.nxt n2
  obtain ⟨go, stop⟩ := it rs M G2 H2 n2.g ok2
  by_cases hlt : i < n
  · obtain ⟨g, yl⟩ := go i hlt
    refine .inr ⟨g, fun H => ∃ acc vs G2, Acc n item (i + 1) acc ∧ RepAll X.K G2 vs acc ∧ H p = some (.lst vs) ∧ G2 p = none ∧ Nxt rs G1 H1 G2 H, fun H' q => ⟨n - (i + 1), by omega, rfl, hlt, q⟩, fun x H3 y => ?_⟩
    obtain ⟨a, G3, ia, rep, n3⟩ := yl x H3 y
    obtain ⟨hl, ρ', B, ht, hB, hE, hN⟩ := hs n item i acc a ri hlt ha ia
    have ok3 := ok2.nxt n3
    refine ⟨G3, a, _, ρ', (l.wipe _).same (n1.g.trans (n2.g.trans n3.g)), rep, ok3.gh, ht, fun σ' l' w => ⟨?_, ρ', B, hB, G3, l', ok3, fun b G4 H4 hb n4 => ?_⟩⟩
    · rw [w _ his]
      have idem : ∀ vs : List Nat, ∀ us : List Nat, (∀ v ∈ vs, v ∈ us) → L2.wipe (L2.wipe σ vs) us = L2.wipe σ us := by
        intro vs
        induction vs with
        | nil => intro us _; rfl
        | cons v vs ih =>
          intro us hu
          show L2.wipe ((L2.wipe σ vs).set v none) us = _
          rw [wipe_set (hu v List.mem_cons_self)]
          exact ih us fun z hz => hu z (List.mem_cons_of_mem _ hz)
      exact idem _ _ fun _ h => h
    · have n34 := n3.trans n4 ok2
      have ok4 := ok3.nxt n4
      have gp : ∀ {G' H'}, Nxt rs G2 H2 G' H' → G' p = none := fun {G' H'} nn => by
        cases q : G' p with
        | none => rfl
        | some o =>
          rcases nn.nw p o q with z | z
          · rw [g2] at z
            cases z
          · rw [e2] at z
            cases z
      cases b with
      | false => exact iteF ⟨acc, vs, G4, hN hb, reps.same n34.g, n34.h _ _ e2 nFp, gp n34, n2.trans n34 ok1⟩
      | true =>
        refine iteT ⟨ρ', _, hE hb, G4, l'.same n4.g, ok4, fun v z G5 H5 hz rep5 n5 => ?_⟩
        have n345 := n34.trans n5 ok2
        have e5 := n345.h _ _ e2 nFp
        refine ⟨vs, e5, by rw [reps.length]; exact lt_line hl, acc ++ [z], vs ++ [v], G5, hz, (reps.same n345.g).append ⟨rep5, trivial⟩, upd_same, gp n345, ?_⟩
        have n15 := n2.trans n345 ok1
        refine ⟨n15.g, fun b o e => ?_, fun b o e f => ?_, n15.nw, rs.st _ _ n15.i fun b o f e => ?_⟩
        · rw [upd_ne fun z => by rw [z, gp n345] at e; cases e]
          exact n15.gh _ _ e
        · rw [upd_ne (ne_of_none e hp)]
          exact n15.h _ _ e f
        · rw [upd_ne (show b ≠ p from fun z => f.elim (fun f => nFp (show rs.F p from z ▸ f)) fun c => by
            subst z
            rw [e5] at e
            cases Option.some.inj e
            obtain ⟨q, z⟩ := c
            exact nomatch z)]
          exact e
  · have e1 : i = n := by omega
    subst e1
    exact .inl ⟨stop, k p vs acc G2 H2 (hd _ item acc ri ha) reps e2 g2 hp0 (n1.trans n2 ok)⟩
theorem dn_lc (Acc : Nat → (Nat → Ab → Prop) → Nat → List Ab → Prop) (hi : DI X rs M ρ tg iter RI) (hc : X.calm = true) (hN : X.N.Nodup) (ok : BlkOk X.N X.env.scope scope own) (hg : AllBlk X scope (fun Y => DG Y tg is T)) (h0 : ∀ n item, RI n item → Acc n item 0 [])
    (hs : ∀ n item i acc a, RI n item → i < n → Acc n item i acc → item i a → acc.length ≤ 100000 ∧ ∃ ρ' B, T a (wipeA ρ (own.map (·.2))) ρ' ∧ AllBlk X scope (fun Y => DTs Y rs M ρ' ifs B) ∧
      (B true → AllBlk X scope (fun Y => DE Y rs M ρ' elt (fun z => Acc n item (i + 1) (acc ++ [z])))) ∧ (B false → Acc n item (i + 1) acc)) (hd : ∀ n item acc, RI n item → Acc n item n acc → U acc) (his : ∀ i ∈ is, i ∈ own.map (·.2))
    (hf : ∀ x, foldedSetIterable iter X.env x = pure x := by intro _; rfl) : DN X rs M ρ (.ListComp elt [⟨tg, iter, ifs, 0⟩] scope pos) U :=
  pe_weak (pe_lc hc hN hi ok (fun s H C cl fp => hg s H C cl fp) (tt := fun σ H Q => ∃ ρ' B, AllBlk X scope (fun Y => DTs Y rs M ρ' ifs B) ∧ tDT X.K rs M ρ' B σ H Q)
    (te := fun σ H Q => ∃ ρ' R, AllBlk X scope (fun Y => DE Y rs M ρ' elt R) ∧ tD X.K rs M ρ' R σ H Q) (fun s H C cl fp => ⟨fun pins s1 σ H1 Q I ⟨ρ', B, hB, q⟩ => (hB s H C cl fp).run pins s1 σ H1 Q I q⟩)
    (fun s H C cl fp => ⟨fun pins s1 σ H1 Q I ⟨ρ', R, hR, q⟩ => (hR s H C cl fp).run pins s1 σ H1 Q I q⟩) hf) fun σ H Q h => lc_read Acc h0 hs hd his h
end
section
variable {X : Cx} {Ff : Addr → Prop} {S : Sta} {D : AE} {tg iter elt : Expr} {ifs : List Expr} {scope : Scope} {own : List (Str × Nat)} {pos spos py : Pos} {is : List Nat} {T : Ab → List (Option Ab) → List (Option Ab) → Prop} {RI : Nat → (Nat → Ab → Prop) → Prop} {U : List Ab → Prop} {y : Str}
/-- y = [.. for ..] -/
theorem ds_setLcG {V' : V → Hp → Prop} (j : Nat) (Acc : Nat → (Nat → Ab → Prop) → Nat → List Ab → Prop) (hi : DI X S.rs S.M S.ρ tg iter RI) (hc : X.calm = true) (hN : X.N.Nodup) (ok : BlkOk X.N X.env.scope scope own) (hg : AllBlk X scope (fun Y => DG Y tg is T)) (h0 : ∀ n item, RI n item → Acc n item 0 [])
    (hs : ∀ n item i acc a, RI n item → i < n → Acc n item i acc → item i a → acc.length ≤ 100000 ∧ ∃ ρ' B, T a (wipeA S.ρ (own.map (·.2))) ρ' ∧ AllBlk X scope (fun Y => DTs Y S.rs S.M ρ' ifs B) ∧
      (B true → AllBlk X scope (fun Y => DE Y S.rs S.M ρ' elt (fun z => Acc n item (i + 1) (acc ++ [z])))) ∧ (B false → Acc n item (i + 1) acc)) (hd : ∀ n item acc, RI n item → Acc n item n acc → U acc) (his : ∀ i ∈ is, i ∈ own.map (·.2))
    (k : ∀ q as, U as → D.nx ⟨S.rs, ⟨q, true, .lst as⟩ :: S.M, S.ρ.set j (some (.at q))⟩)
    (hy : X.N[j]? = some y := by rfl) (hyl : X.env.scope.names.lookup y = some .local := by rfl) (hsw : swapsWith (.ListComp elt [⟨tg, iter, ifs, 0⟩] scope pos) (some (.Name y py)) spos.line X.env = pure true := by exact sw_true rfl rfl rfl (by decide +kernel))
    (hf : ∀ x, foldedSetIterable iter X.env x = pure x := by intro _; rfl) : DS X Ff S (.Assign [.Name y py] (.ListComp elt [⟨tg, iter, ifs, 0⟩] scope pos) spos) D := fun G0 H0 =>
  ps_weak (ps_setLc hc hN hy hyl hsw hi ok (fun s H C cl fp => hg s H C cl fp) (tt := fun σ H Q => ∃ ρ' B, AllBlk X scope (fun Y => DTs Y S.rs S.M ρ' ifs B) ∧ tDT X.K S.rs S.M ρ' B σ H Q)
    (te := fun σ H Q => ∃ ρ' R, AllBlk X scope (fun Y => DE Y S.rs S.M ρ' elt R) ∧ tD X.K S.rs S.M ρ' R σ H Q) (fun s H C cl fp => ⟨fun pins s1 σ H1 Q I ⟨ρ', B, hB, q⟩ => (hB s H C cl fp).run pins s1 σ H1 Q I q⟩)
    (fun s H C cl fp => ⟨fun pins s1 σ H1 Q I ⟨ρ', R, hR, q⟩ => (hR s H C cl fp).run pins s1 σ H1 Q I q⟩) hf) fun De σ H ⟨G, s, n, _⟩ => lc_read Acc h0 hs hd his ⟨G, s.loc, s.ok, fun q vs as G' H' t rep e1 g1 h0 nn => n _ _ G' H' (k q as t) ((s.push nn rep e1 g1 h0).set (a := .at q) rfl)⟩
/-- .. frozen at once -/
theorem ds_setLc {R : Ab → Prop} (j : Nat) (Acc : Nat → (Nat → Ab → Prop) → Nat → List Ab → Prop) (hi : DI X S.rs S.M S.ρ tg iter RI) (hc : X.calm = true) (hN : X.N.Nodup) (ok : BlkOk X.N X.env.scope scope own) (hg : AllBlk X scope (fun Y => DG Y tg is T)) (h0 : ∀ n item, RI n item → Acc n item 0 [])
    (hs : ∀ n item i acc a, RI n item → i < n → Acc n item i acc → item i a → acc.length ≤ 100000 ∧ ∃ ρ' B, T a (wipeA S.ρ (own.map (·.2))) ρ' ∧ AllBlk X scope (fun Y => DTs Y S.rs S.M ρ' ifs B) ∧
      (B true → AllBlk X scope (fun Y => DE Y S.rs S.M ρ' elt (fun z => Acc n item (i + 1) (acc ++ [z])))) ∧ (B false → Acc n item (i + 1) acc)) (hd : ∀ n item acc, RI n item → Acc n item n acc → ∃ ds, acc = ds.map .d ∧ R (aL ds)) (his : ∀ i ∈ is, i ∈ own.map (·.2))
    (k : ∀ a, R a → D.nx ⟨S.rs, S.M, S.ρ.set j (some a)⟩)
    (hy : X.N[j]? = some y := by rfl) (hyl : X.env.scope.names.lookup y = some .local := by rfl) (hsw : swapsWith (.ListComp elt [⟨tg, iter, ifs, 0⟩] scope pos) (some (.Name y py)) spos.line X.env = pure true := by exact sw_true rfl rfl rfl (by decide +kernel))
    (hf : ∀ x, foldedSetIterable iter X.env x = pure x := by intro _; rfl) : DS X Ff S (.Assign [.Name y py] (.ListComp elt [⟨tg, iter, ifs, 0⟩] scope pos) spos) D := fun G0 H0 =>
  ps_weak (ps_setLc hc hN hy hyl hsw hi ok (fun s H C cl fp => hg s H C cl fp) (tt := fun σ H Q => ∃ ρ' B, AllBlk X scope (fun Y => DTs Y S.rs S.M ρ' ifs B) ∧ tDT X.K S.rs S.M ρ' B σ H Q)
    (te := fun σ H Q => ∃ ρ' R, AllBlk X scope (fun Y => DE Y S.rs S.M ρ' elt R) ∧ tD X.K S.rs S.M ρ' R σ H Q) (fun s H C cl fp => ⟨fun pins s1 σ H1 Q I ⟨ρ', B, hB, q⟩ => (hB s H C cl fp).run pins s1 σ H1 Q I q⟩)
    (fun s H C cl fp => ⟨fun pins s1 σ H1 Q I ⟨ρ', R, hR, q⟩ => (hR s H C cl fp).run pins s1 σ H1 Q I q⟩) hf) fun De σ H ⟨G, s, n, _⟩ => lc_read (U := fun acc => ∃ ds, acc = ds.map .d ∧ R (aL ds)) Acc h0 hs hd his ⟨G, s.loc, s.ok, fun q vs as G' H' ⟨ds, e, r⟩ rep e1 g1 h0 nn => by
      subst e
      have n2 := nn.frz e1 h0 g1
      refine n _ _ _ H' (k _ r) ((s.nxt n2).set (a := aL ds) (Dp.lst upd_same (dpAll_same (fun b u e => ?_) _ _ (repAll_dp.mp rep))))
      rw [upd_ne (ne_of_none e g1)]
      exact e⟩
end

/-! ### defs -/
section
variable {P : Program} {w : World} {K : PySem.W.Frag} {mg : Str → Option Value} {base : Heap} {k : Nat} {f : Addr} {fd : FuncData} {ps N : List Str} {x qual : Str} {st : Stmt} {T : Rs → Mem → List Ab → (Ab → Prop) → Prop}
abbrev bodyCx (P : Program) (w : World) (K : PySem.W.Frag) (mg : Str → Option Value) (base : Heap) (N : List Str) (qual : Str) (st : Stmt) (f : Addr) (cdv : Value) (A : Around) (outer : List Env) (s : Shared) (H : Hp) (E : XK) : Cx := (cxOf CX0 P w K mg base N qual (defScope st) f cdv A outer s H E).nox
/-- a def by its body; the state is opened as one likes (a resource told in lists of our own) -/
theorem fn_goF (F : Fun K x qual st f fd) (Sc : FnScope N ps (defScope st)) (len : ∀ rs M as R, T rs M as R → as.length = ps.length)
    (body : ∀ (cdv : Value) (A : Around) (outer : List Env) (s : Shared) (H0 : Hp) (E : XK), Room k (A.deeper (envOfC qual (defScope st) s.heap.objs.size f cdv)) → A.guards = some [] → ∀ rs M as R, T rs M as R → (∀ e ∈ M, e.mu = false) → ∀ G H vs, RepAll K G vs as → Ok K rs M G H →
      ∃ rs1 M1, Ok K rs1 M1 G H ∧ (∀ e ∈ M1, e.mu = true → rs.F e.p) ∧ (∀ b, rs1.F b → rs.F b) ∧ DSs (bodyCx P w K mg base N qual st f cdv A outer s H0 E) rs.F ⟨rs1, M1, startA N as⟩ (defBody st)
        ⟨fun S => R aN ∧ ∀ G H, Ok K S.rs S.M G H → rs.I H, fun rs2 M2 a => R a ∧ ∀ G H, Ok K rs2 M2 G H → rs.I H, fun _ => False, fun _ => False⟩) : FnG P w K mg base CX0 (k + 1) f fd ps (Spec K T) := by
  refine fun_okG F Sc (fun vs H Q E ⟨rs, M, as, R, G, t, _, r, _⟩ => by rw [r.length]; exact len rs M as R t) fun cdv A outer s H vs Q E room gd ⟨rs, M, as, R, G, t, ro, reps, ok, kk⟩ => ?_
  obtain ⟨rs1, M1, ok1, own1, sub1, run⟩ := body cdv A outer s H E room gd rs M as R t ro G H vs reps ok
  refine ⟨_, (run G ⟨H, rfl⟩).nox, G, ⟨Loc.starts reps, ok1, Lie.refl _ _ _, fun e he hm => .inr (own1 e he hm), fun b f => .inr (sub1 b f)⟩, fun S' σ' G' H' ⟨q, qi⟩ s' => ?_, fun rs2 M2 v a G' H' ⟨q, qi⟩ rep ok2 l2 _ => ?_, fun _ _ _ _ q => q.elim, fun _ _ _ _ q => q.elim⟩
  · exact kk .non aN G' H' q Dp.non ⟨s'.lie.g, s'.ok.gh, s'.lie.h, s'.lie.nw, qi _ _ s'.ok⟩
  · exact kk v a G' H' q rep ⟨l2.g, ok2.gh, l2.h, l2.nw, qi _ _ ok2⟩
/-- a def that only leaves what the resource lets it -/
theorem fn_go (F : Fun K x qual st f fd) (Sc : FnScope N ps (defScope st)) (len : ∀ rs M as R, T rs M as R → as.length = ps.length)
    (body : ∀ (cdv : Value) (A : Around) (outer : List Env) (s : Shared) (H0 : Hp) (E : XK), Room k (A.deeper (envOfC qual (defScope st) s.heap.objs.size f cdv)) → A.guards = some [] → ∀ rs M as R, T rs M as R → (∀ e ∈ M, e.mu = false) →
      DSs (bodyCx P w K mg base N qual st f cdv A outer s H0 E) rs.F ⟨rs, M, startA N as⟩ (defBody st) ⟨fun S => S.rs = rs ∧ R aN, fun rs2 _ a => rs2 = rs ∧ R a, fun _ => False, fun _ => False⟩) : FnG P w K mg base CX0 (k + 1) f fd ps (Spec K T) :=
  fn_goF F Sc len fun cdv A outer s H0 E room gd rs M as R t ro G H vs reps ok => ⟨rs, M, ok, (fun e he hm => absurd hm (by rw [ro e he]; decide)), fun b h => h, fun G0 H1 => pss_weak (body cdv A outer s H0 E room gd rs M as R t ro G0 H1) fun De σ H ⟨G, st, n, r, b, c⟩ =>
    ⟨G, st, fun S' σ' G' H' ⟨e, q⟩ => n S' σ' G' H' ⟨q, fun G H o => by rw [e] at o; exact o.i⟩, fun rs2 M2 v a G' H' ⟨e, q⟩ => r rs2 M2 v a G' H' ⟨q, fun G H o => by rw [e] at o; exact o.i⟩, b, c⟩⟩
end
end HW
/-! Own layer, part D: operators, built-ins, sequences, repr. -/
namespace HW
open PySem PySem.Spec PyProof.Rows L2 RZ

section
variable {K : PySem.W.Frag} {rs : Rs} {M : Mem} {R : Ab → Prop} {i j : Int}
theorem rep_int {G : Hp} {v : V} (h : Rep K G v (aI i)) : v = .int i := by
  have h : Dp K G v (.int i) := h
  cases h
  rfl
theorem rep_bl {G : Hp} {v : V} {b : Bool} (h : Rep K G v (aB b)) : v = .bl b := by
  have h : Dp K G v (.bool b) := h
  cases h
  rfl
theorem rep_str {G : Hp} {v : V} {b : Str} (h : Rep K G v (aS b)) : v = .str b := by
  have h : Dp K G v (.str b) := h
  cases h
  rfl
theorem rep_non {G : Hp} {v : V} (h : Rep K G v aN) : v = .non := by
  have h : Dp K G v .none := h
  cases h
  rfl
theorem ar_int {C : Int → Int → Prop} {g : Int → Int → Int} (hc : C i j) (h : R (aI (g i j))) : AR2 K rs M (rI C fun i j => .int (g i j)) (aI i) (aI j) R := fun G H v u Q ok r1 r2 k => by
  rw [rep_int r1, rep_int r2]
  exact ⟨i, j, rfl, rfl, hc, k _ _ G H h (Dp.int _) (Nxt.rfl ok)⟩
theorem ar_int0 {g : Int → Int → Int} (h : R (aI (g i j))) : AR2 K rs M (rI0 fun i j => .int (g i j)) (aI i) (aI j) R := fun G H v u Q ok r1 r2 k => by
  rw [rep_int r1, rep_int r2]
  exact ⟨i, j, rfl, rfl, k _ _ G H h (Dp.int _) (Nxt.rfl ok)⟩
theorem ar_cmp0 {g : Int → Int → Bool} (h : R (aB (g i j))) : AR2 K rs M (rI0 fun i j => .bl (g i j)) (aI i) (aI j) R := fun G H v u Q ok r1 r2 k => by
  rw [rep_int r1, rep_int r2]
  exact ⟨i, j, rfl, rfl, k _ _ G H h (Dp.bl _) (Nxt.rfl ok)⟩
theorem ar_eqI (h : R (aB (decide (i = j)))) : AR2 K rs M rEq (aI i) (aI j) R := fun G H v u Q ok r1 r2 k => by
  rw [rep_int r1, rep_int r2]
  refine ⟨rfl, k _ _ G H h ?_ (Nxt.rfl ok)⟩
  have e : decide (V.int i = V.int j) = decide (i = j) := by rw [dec_int, Bool.beq_eq_decide_eq]
  rw [e]
  exact Dp.bl _
theorem ar_neI (h : R (aB (!decide (i = j)))) : AR2 K rs M rNe (aI i) (aI j) R := fun G H v u Q ok r1 r2 k => by
  rw [rep_int r1, rep_int r2]
  refine ⟨rfl, k _ _ G H h ?_ (Nxt.rfl ok)⟩
  have e : decide (V.int i = V.int j) = decide (i = j) := by rw [dec_int, Bool.beq_eq_decide_eq]
  rw [e]
  exact Dp.bl _
theorem ar_eqS {a b : Str} (h : R (aB (decide (a = b)))) : AR2 K rs M rEq (aS a) (aS b) R := fun G H v u Q ok r1 r2 k => by
  rw [rep_str r1, rep_str r2]
  refine ⟨rfl, k _ _ G H h ?_ (Nxt.rfl ok)⟩
  have e : decide (V.str a = V.str b) = decide (a = b) := by simp only [V.str.injEq]
  rw [e]
  exact Dp.bl _
theorem ar_neS {a b : Str} (h : R (aB (!decide (a = b)))) : AR2 K rs M rNe (aS a) (aS b) R := fun G H v u Q ok r1 r2 k => by
  rw [rep_str r1, rep_str r2]
  refine ⟨rfl, k _ _ G H h ?_ (Nxt.rfl ok)⟩
  have e : decide (V.str a = V.str b) = decide (a = b) := by simp only [V.str.injEq]
  rw [e]
  exact Dp.bl _
/-- data that may be read off a value -/
def View (K : PySem.W.Frag) (rs : Rs) (M : Mem) (x : Ab) (d : PyData) : Prop := ∀ G H v, Ok K rs M G H → Rep K G v x → L2.Dp K H v d
theorem view_d (d : PyData) : View K rs M (.d d) d := fun _ _ _ ok r => (dp_same ok.gh _ _ r).old
theorem view_at {p : Addr} {b : Bool} {ds : List PyData} (h : (⟨p, b, .lst (ds.map .d)⟩ : Me) ∈ M) : View K rs M (.at p) (.list ds) := fun G H v ok r => by
  have r : v = .ref p := r
  subst r
  obtain ⟨_, _, vs, e1, ra⟩ := ok.m _ h
  exact (Dp.lst e1 (dpAll_same ok.gh _ _ (repAll_dp.mp ra))).old
theorem ar_eqD {x y : Ab} {d e : PyData} (hx : View K rs M x d) (hy : View K rs M y e) (sd : SeqAt.shaped d = true) (se : SeqAt.shaped e = true) (h : R (aB (PyData.eqv d e))) : AR2 K rs M (rEqD K) x y R := fun G H v u Q ok r1 r2 k =>
  ⟨d, e, hx G H v ok r1, hy G H u ok r2, sd, se, k _ _ G H h (Dp.bl _) (Nxt.rfl ok)⟩
theorem ar_neD {x y : Ab} {d e : PyData} (hx : View K rs M x d) (hy : View K rs M y e) (sd : SeqAt.shaped d = true) (se : SeqAt.shaped e = true) (h : R (aB (!PyData.eqv d e))) : AR2 K rs M (rNeD K) x y R := fun G H v u Q ok r1 r2 k =>
  ⟨d, e, hx G H v ok r1, hy G H u ok r2, sd, se, k _ _ G H h (Dp.bl _) (Nxt.rfl ok)⟩

/-! ### sequences -/
/-- a list that may be read; one that the program made -/
def SeqL (K : PySem.W.Frag) (rs : Rs) (M : Mem) (x : Ab) (xs : List Ab) : Prop := ∀ G H v, Ok K rs M G H → Rep K G v x → ∃ a vs, v = .ref a ∧ SqL K H a vs ∧ RepAll K G vs xs
def SeqM (K : PySem.W.Frag) (rs : Rs) (M : Mem) (x : Ab) (xs : List Ab) : Prop := ∀ G H v, Ok K rs M G H → Rep K G v x → ∃ a vs, v = .ref a ∧ H a = some (.lst vs) ∧ RepAll K G vs xs
theorem SeqM.l {x : Ab} {xs : List Ab} (h : SeqM K rs M x xs) : SeqL K rs M x xs := fun G H v ok r => by
  obtain ⟨a, vs, e, s, ra⟩ := h G H v ok r
  exact ⟨a, vs, e, .inl (.inl s), ra⟩
theorem seqM_l (ds : List PyData) : SeqM K rs M (aL ds) (ds.map .d) := fun G H v ok r => by
  have r : Dp K G v (.list ds) := r
  cases r with
  | lst hs ha => exact ⟨_, _, rfl, ok.gh _ _ hs, repAll_dp.mpr ha⟩
theorem seqM_at {p : Addr} {b : Bool} {xs : List Ab} (h : (⟨p, b, .lst xs⟩ : Me) ∈ M) : SeqM K rs M (.at p) xs := fun G H v ok r => by
  have r : v = .ref p := r
  obtain ⟨_, _, vs, e1, ra⟩ := ok.m _ h
  exact ⟨p, vs, r, e1, ra⟩
theorem seqL_scr (ns : List Int) : SeqL K rs M (aScr K ns) ((ns.map .int).map .d) := fun G H v ok r => by
  obtain ⟨G0, e, a, rfl, s⟩ := r
  exact ⟨a, _, rfl, sqL_same (e.trans ok.gh) s, by rw [List.map_map]; exact ints_repAll ns⟩
theorem SeqL.get {x : Ab} {xs : List Ab} {G H : Hp} {v : V} (h : SeqL K rs M x xs) (ok : Ok K rs M G H) (r : Rep K G v x) : ∃ a vs, v = .ref a ∧ SqL K H a vs ∧ RepAll K G vs xs := h G H v ok r
theorem tup_get {ds : List PyData} {G H : Hp} {v : V} (ok : Ok K rs M G H) (r : Rep K G v (aT ds)) : ∃ a vs, v = .ref a ∧ SqT K H a vs ∧ RepAll K G vs (ds.map .d) := by
  have r : Dp K G v (.tuple ds) := r
  cases r with
  | tup hs ha => exact ⟨_, _, rfl, sqT_same ok.gh hs, repAll_dp.mpr ha⟩
def Seqs (K : PySem.W.Frag) (rs : Rs) (M : Mem) (x : Ab) (xs : List Ab) : Prop := SeqL K rs M x xs ∨ ∃ ds, x = aT ds ∧ xs = ds.map .d
theorem Seqs.get {x : Ab} {xs : List Ab} {G H : Hp} {v : V} (h : Seqs K rs M x xs) (ok : Ok K rs M G H) (r : Rep K G v x) : ∃ a vs, v = .ref a ∧ (SqL K H a vs ∨ SqT K H a vs) ∧ RepAll K G vs xs := by
  rcases h with h | ⟨ds, rfl, rfl⟩
  · obtain ⟨a, vs, e, s, r⟩ := h.get ok r
    exact ⟨a, vs, e, .inl s, r⟩
  · obtain ⟨a, vs, e, s, r⟩ := tup_get ok r
    exact ⟨a, vs, e, .inr s, r⟩
theorem seqs_l (ds : List PyData) : Seqs K rs M (aL ds) (ds.map .d) := .inl (seqM_l ds).l
theorem seqs_t (ds : List PyData) : Seqs K rs M (aT ds) (ds.map .d) := .inr ⟨ds, rfl, rfl⟩
theorem seqs_at {p : Addr} {b : Bool} {xs : List Ab} (h : (⟨p, b, .lst xs⟩ : Me) ∈ M) : Seqs K rs M (.at p) xs := .inl (seqM_at h).l
theorem seqs_scr (ns : List Int) : Seqs K rs M (aScr K ns) ((ns.map .int).map .d) := .inl (seqL_scr ns)
def rLenS (K : PySem.W.Frag) : List V → Hp → VK → Prop := fun xs H Q => ∃ p ys, xs = [.ref p] ∧ (SqL K H p ys ∨ SqT K H p ys) ∧ Q (.int ys.length) H
theorem cr_lenS {X : Cx} : CallR X (.builtin "len") (rLenS X.K) := call_len_seq
theorem ac_len {x : Ab} {xs : List Ab} (h : Seqs K rs M x xs) (r : R (aI (xs.length : Int))) : ARC K rs M (rLenS K) [x] R := fun G H vs Q ok reps k => by
  match vs, reps with
  | [v], ⟨rv, _⟩ =>
    obtain ⟨a, ws, rfl, s, ra⟩ := h.get ok rv
    refine ⟨a, ws, rfl, s, k _ _ G H r ?_ (Nxt.rfl ok)⟩
    rw [ra.length]
    exact Dp.int _
theorem repAll_atI {G : Hp} {vs : List V} {xs : List Ab} {a : Ab} (r : RepAll K G vs xs) (h : atI xs i = some a) : ∃ v, atI vs i = some v ∧ Rep K G v a := by
  unfold atI at h ⊢
  rw [r.length]
  cases q : ixN xs.length i with
  | none =>
    rw [q] at h
    cases h
  | some j =>
    rw [q] at h
    exact r.get h
theorem ar_ix {x : Ab} {xs : List Ab} {a : Ab} (h : Seqs K rs M x xs) (ha : atI xs i = some a) (r : R a) : AR2 K rs M (rIx K) x (aI i) R := fun G H v u Q ok r1 r2 k => by
  rw [rep_int r2]
  obtain ⟨p, ws, rfl, s, ra⟩ := h.get ok r1
  obtain ⟨w, hw, rw'⟩ := repAll_atI ra ha
  rcases s with s | s
  · exact .inl ⟨p, ws, i, w, rfl, rfl, s, hw, k _ a G H r rw' (Nxt.rfl ok)⟩
  · exact .inr (.inl ⟨p, ws, i, w, rfl, rfl, s, hw, k _ a G H r rw' (Nxt.rfl ok)⟩)
end

/-- the places of a slice -/
def cutA {α : Type} (xs : List α) (lo hi : Option Int) : List α := (xs.drop (HT.sIx xs.length 0 lo)).take (HT.sIx xs.length xs.length hi - HT.sIx xs.length 0 lo)
theorem cutA_map {α β : Type} (f : α → β) (xs : List α) (lo hi : Option Int) : cutA (xs.map f) lo hi = (cutA xs lo hi).map f := by
  unfold cutA
  rw [List.length_map, List.map_take, List.map_drop]
theorem RepAll.cut {K : PySem.W.Frag} {G : Hp} {vs : List V} {as : List Ab} (h : RepAll K G vs as) (lo hi : Option Int) : RepAll K G (cutV vs lo hi) (cutA as lo hi) := by
  unfold cutV cutA
  rw [h.length]
  exact (h.drop _).take _
def tDO (K : PySem.W.Frag) (rs : Rs) (M : Mem) (ρ : List (Option Ab)) (R : Option Int → Prop) : TO := fun σ H Q => ∃ G, Loc K G σ ρ ∧ Ok K rs M G H ∧ ∀ o G' H', R o → Nxt rs G H G' H' → Q o H'
abbrev DO (X : Cx) (rs : Rs) (M : Mem) (ρ : List (Option Ab)) (e : Option Expr) (R : Option Int → Prop) : Prop := PO X e (tDO X.K rs M ρ R)
section
variable {X : Cx} {rs : Rs} {M : Mem} {ρ : List (Option Ab)} {a b e : Expr} {es : List Expr} {pos p p2 : Pos} {R Ra Rb : Ab → Prop} {x y : Ab} {i j : Int} {lo hi : Option Expr}
theorem po_weak {e : Option Expr} {t t' : TO} (h : PO X e t) (w : ∀ σ H Q, t' σ H Q → t σ H Q) : PO X e t' := ⟨fun pins s σ H Q I q => h.run pins s σ H Q I (w σ H Q q)⟩
theorem do_none : DO X rs M ρ none (fun o => o = none) := po_weak po_none fun σ H Q ⟨G, l, ok, k⟩ => k none G H rfl (Nxt.rfl ok)
theorem do_someR {T : Option Int → Prop} (h : DE X rs M ρ e Ra) (w : ∀ y, Ra y → ∃ i, y = aI i ∧ T (some i)) : DO X rs M ρ (some e) T := po_weak (po_some h) fun σ H Q ⟨G, l, ok, k⟩ => ⟨G, l, ok, fun v y G1 H1 ry rep n => by
  obtain ⟨i, rfl, t⟩ := w y ry
  rw [rep_int rep]
  exact ⟨i, rfl, k (some i) G1 H1 t n⟩⟩
theorem do_some (h : DE X rs M ρ e (Is (aI i))) : DO X rs M ρ (some e) (fun o => o = some i) := do_someR h fun y hy => ⟨i, hy, rfl⟩
/-- a tuple's slice -/
theorem de_slT {ds : List PyData} {ol oh : Option Int} (ha : DE X rs M ρ a (Is (aT ds))) (hl : DO X rs M ρ lo (fun o => o = ol)) (hh : DO X rs M ρ hi (fun o => o = oh)) : DE X rs M ρ (.Subscript a (.Slice lo hi none p2) pos) (Is (aT (cutA ds ol oh))) :=
  pe_weak (pe_slice sl_tupA ha hl hh) fun σ H Q ⟨G, l, ok, k⟩ => tD_go l ok fun v y G1 H1 ry rep1 l1 ok1 n1 => ⟨G1, l1, ok1, fun o1 G2 H2 e1 n2 => ⟨G2, l1.same n2.g, ok1.nxt n2, fun o2 G3 H3 e2 n3 => by
    subst ry e1 e2
    have n23 := n2.trans n3 ok1
    have ok3 := ok1.nxt n23
    obtain ⟨q, ws, rfl, s, ra⟩ := tup_get ok3 (rep1.same n23.g)
    have n123 := n1.trans n23 ok
    have rc := ra.cut o1 o2
    rw [cutA_map] at rc
    refine ⟨q, ws, rfl, s, fun hw => ?_, fun _ z hz => ?_⟩
    · refine k (.ref q) _ G3 H3 rfl ?_ n123
      have same : cutA ds o1 o2 = ds := by
        have hl : ws.length = ds.length := by rw [ra.length, List.length_map]
        unfold cutA
        rw [← hl, hw.1, hw.2, List.drop_zero, Nat.sub_zero, hl, List.take_length]
      rw [same]
      exact rep1.same n23.g
    · have n4 := Nxt.new (o := .tup (cutV ws o1 o2)) ok3 hz
      exact k (.ref z) _ _ _ rfl (Dp.tup (.inl (.inl upd_same)) (dpAll_same n4.g _ _ (repAll_dp.mp rc))) (n123.trans n4 ok)⟩⟩
/-- a list's slice -/
theorem dn_slL {xs : List Ab} {ol oh : Option Int} {y : Ab} (ha : DE X rs M ρ a (Is y)) (hs : SeqL X.K rs M y xs) (hl : DO X rs M ρ lo (fun o => o = ol)) (hh : DO X rs M ρ hi (fun o => o = oh)) : DN X rs M ρ (.Subscript a (.Slice lo hi none p2) pos) (fun as => as = cutA xs ol oh) :=
  pe_weak (pe_slice sl_list ha hl hh) fun σ H Q ⟨G, l, ok, k⟩ => tD_go l ok fun v z G1 H1 ry rep1 l1 ok1 n1 => ⟨G1, l1, ok1, fun o1 G2 H2 e1 n2 => ⟨G2, l1.same n2.g, ok1.nxt n2, fun o2 G3 H3 e2 n3 => by
    subst ry e1 e2
    have n23 := n2.trans n3 ok1
    have ok3 := ok1.nxt n23
    obtain ⟨q, ws, rfl, s, ra⟩ := hs.get ok3 (rep1.same n23.g)
    have n123 := n1.trans n23 ok
    exact ⟨q, ws, rfl, s, fun z hz => k z _ _ G3 _ rfl (ra.cut o1 o2) upd_same (ok3.gnone hz) (fresh_of ok n123 hz) (n123.trans (Nxt.newM ok3 hz) ok)⟩⟩⟩

/-! ### ints -/
theorem de_add (ha : DE X rs M ρ a (Is (aI i))) (hb : DE X rs M ρ b (Is (aI j))) : DE X rs M ρ (.BinOp a .Add b pos) (Is (aI (i + j))) := de_op op_add ha hb fun _ _ e1 e2 => by subst e1 e2; exact ar_int0 rfl
theorem de_sub (ha : DE X rs M ρ a (Is (aI i))) (hb : DE X rs M ρ b (Is (aI j))) : DE X rs M ρ (.BinOp a .Sub b pos) (Is (aI (i - j))) := de_op op_sub ha hb fun _ _ e1 e2 => by subst e1 e2; exact ar_int0 rfl
theorem de_mul (ha : DE X rs M ρ a (Is (aI i))) (hb : DE X rs M ρ b (Is (aI j))) (hc : CMul i j) : DE X rs M ρ (.BinOp a .Mult b pos) (Is (aI (i * j))) := de_op op_mul ha hb fun _ _ e1 e2 => by subst e1 e2; exact ar_int hc rfl
theorem de_mulW (ha : DE X rs M ρ a (Is (aI i))) (hb : DE X rs M ρ b (Is (aI j))) (hc : CMulW i j) : DE X rs M ρ (.BinOp a .Mult b pos) (Is (aI (i * j))) := de_op op_mulW ha hb fun _ _ e1 e2 => by subst e1 e2; exact ar_int hc rfl
theorem de_mod (ha : DE X rs M ρ a (Is (aI i))) (hb : DE X rs M ρ b (Is (aI j))) (hc : 0 < j) : DE X rs M ρ (.BinOp a .Mod b pos) (Is (aI (i % j))) := de_op op_mod ha hb fun _ _ e1 e2 => by subst e1 e2; exact ar_int hc rfl
theorem de_div (ha : DE X rs M ρ a (Is (aI i))) (hb : DE X rs M ρ b (Is (aI j))) (hc : CDivW i j) : DE X rs M ρ (.BinOp a .FloorDiv b pos) (Is (aI (i / j))) := de_op op_fdivW ha hb fun _ _ e1 e2 => by subst e1 e2; exact ar_int hc rfl
theorem de_pow (ha : DE X rs M ρ a (Is (aI i))) (hb : DE X rs M ρ b (Is (aI j))) (hc : CPow i j) : DE X rs M ρ (.BinOp a .Pow b pos) (Is (aI (i ^ j.toNat))) := de_op op_pow ha hb fun _ _ e1 e2 => by subst e1 e2; exact ar_int hc rfl
theorem de_shl (ha : DE X rs M ρ a (Is (aI i))) (hb : DE X rs M ρ b (Is (aI j))) (hc : CPow i j) : DE X rs M ρ (.BinOp a .LShift b pos) (Is (aI (i * 2 ^ j.toNat))) := de_op op_shl ha hb fun _ _ e1 e2 => by subst e1 e2; exact ar_int hc rfl
theorem de_shr (ha : DE X rs M ρ a (Is (aI i))) (hb : DE X rs M ρ b (Is (aI j))) (hc : 0 ≤ j) : DE X rs M ρ (.BinOp a .RShift b pos) (Is (aI (i / 2 ^ j.toNat))) := de_op op_shr ha hb fun _ _ e1 e2 => by subst e1 e2; exact ar_int hc rfl
theorem de_band (ha : DE X rs M ρ a (Is (aI i))) (hb : DE X rs M ρ b (Is (aI j))) : DE X rs M ρ (.BinOp a .BitAnd b pos) (Is (aI (Builtin.bitAnd i j))) := de_op op_and ha hb fun _ _ e1 e2 => by subst e1 e2; exact ar_int0 rfl
theorem de_bor (ha : DE X rs M ρ a (Is (aI i))) (hb : DE X rs M ρ b (Is (aI j))) : DE X rs M ρ (.BinOp a .BitOr b pos) (Is (aI (Builtin.bitOr i j))) := de_op op_or ha hb fun _ _ e1 e2 => by subst e1 e2; exact ar_int0 rfl
theorem de_bxor (ha : DE X rs M ρ a (Is (aI i))) (hb : DE X rs M ρ b (Is (aI j))) : DE X rs M ρ (.BinOp a .BitXor b pos) (Is (aI (Builtin.bitXor i j))) := de_op op_xor ha hb fun _ _ e1 e2 => by subst e1 e2; exact ar_int0 rfl
theorem de_neg (ha : DE X rs M ρ a (Is (aI i))) : DE X rs M ρ (.UnaryOp .USub a pos) (Is (aI (-i))) := de_un un_neg ha fun y e => fun G H v Q ok r k => by
  subst e
  rw [rep_int r]
  exact ⟨i, rfl, k _ _ G H rfl (Dp.int _) (Nxt.rfl ok)⟩
theorem dt_lt (ha : DE X rs M ρ a (Is (aI i))) (hb : DE X rs M ρ b (Is (aI j))) : DT X rs M ρ (.Compare a [.Lt] [b] pos) (fun c => c = decide (i < j)) := dt_cmp op_lt ha hb (fun _ _ e1 e2 => by subst e1 e2; exact ar_cmp0 ⟨_, rfl, rfl⟩) (nomark _)
theorem dt_le (ha : DE X rs M ρ a (Is (aI i))) (hb : DE X rs M ρ b (Is (aI j))) : DT X rs M ρ (.Compare a [.LtE] [b] pos) (fun c => c = decide (i ≤ j)) := dt_cmp op_le ha hb (fun _ _ e1 e2 => by subst e1 e2; exact ar_cmp0 ⟨_, rfl, rfl⟩) (nomark _)
theorem dt_gt (ha : DE X rs M ρ a (Is (aI i))) (hb : DE X rs M ρ b (Is (aI j))) : DT X rs M ρ (.Compare a [.Gt] [b] pos) (fun c => c = decide (j < i)) := dt_cmp op_gt ha hb (fun _ _ e1 e2 => by subst e1 e2; exact ar_cmp0 ⟨_, rfl, rfl⟩) (nomark _)
theorem dt_ge (ha : DE X rs M ρ a (Is (aI i))) (hb : DE X rs M ρ b (Is (aI j))) : DT X rs M ρ (.Compare a [.GtE] [b] pos) (fun c => c = decide (j ≤ i)) := dt_cmp op_ge ha hb (fun _ _ e1 e2 => by subst e1 e2; exact ar_cmp0 ⟨_, rfl, rfl⟩) (nomark _)
theorem dt_eqI (ha : DE X rs M ρ a (Is (aI i))) (hb : DE X rs M ρ b (Is (aI j))) : DT X rs M ρ (.Compare a [.Eq] [b] pos) (fun c => c = decide (i = j)) := dt_cmp op_eq ha hb (fun _ _ e1 e2 => by subst e1 e2; exact ar_eqI ⟨_, rfl, rfl⟩) (nomark _)
theorem dt_neI (ha : DE X rs M ρ a (Is (aI i))) (hb : DE X rs M ρ b (Is (aI j))) : DT X rs M ρ (.Compare a [.NotEq] [b] pos) (fun c => c = !decide (i = j)) := dt_cmp op_ne ha hb (fun _ _ e1 e2 => by subst e1 e2; exact ar_neI ⟨_, rfl, rfl⟩) (nomark _)
theorem de_lt (ha : DE X rs M ρ a (Is (aI i))) (hb : DE X rs M ρ b (Is (aI j))) : DE X rs M ρ (.Compare a [.Lt] [b] pos) (Is (aB (decide (i < j)))) := de_cmp op_lt ha hb (fun _ _ e1 e2 => by subst e1 e2; exact ar_cmp0 rfl) (nomark _)
theorem de_eqI (ha : DE X rs M ρ a (Is (aI i))) (hb : DE X rs M ρ b (Is (aI j))) : DE X rs M ρ (.Compare a [.Eq] [b] pos) (Is (aB (decide (i = j)))) := de_cmp op_eq ha hb (fun _ _ e1 e2 => by subst e1 e2; exact ar_eqI rfl) (nomark _)
theorem de_neI (ha : DE X rs M ρ a (Is (aI i))) (hb : DE X rs M ρ b (Is (aI j))) : DE X rs M ρ (.Compare a [.NotEq] [b] pos) (Is (aB (!decide (i = j)))) := de_cmp op_ne ha hb (fun _ _ e1 e2 => by subst e1 e2; exact ar_neI rfl) (nomark _)
theorem dt_eqS {s t : Str} (ha : DE X rs M ρ a (Is (aS s))) (hb : DE X rs M ρ b (Is (aS t))) : DT X rs M ρ (.Compare a [.Eq] [b] pos) (fun c => c = decide (s = t)) := dt_cmp op_eq ha hb (fun _ _ e1 e2 => by subst e1 e2; exact ar_eqS ⟨_, rfl, rfl⟩) (nomark _)
theorem dt_neS {s t : Str} (ha : DE X rs M ρ a (Is (aS s))) (hb : DE X rs M ρ b (Is (aS t))) : DT X rs M ρ (.Compare a [.NotEq] [b] pos) (fun c => c = !decide (s = t)) := dt_cmp op_ne ha hb (fun _ _ e1 e2 => by subst e1 e2; exact ar_neS ⟨_, rfl, rfl⟩) (nomark _)
theorem de_eqS {s t : Str} (ha : DE X rs M ρ a (Is (aS s))) (hb : DE X rs M ρ b (Is (aS t))) : DE X rs M ρ (.Compare a [.Eq] [b] pos) (Is (aB (decide (s = t)))) := de_cmp op_eq ha hb (fun _ _ e1 e2 => by subst e1 e2; exact ar_eqS rfl) (nomark _)
theorem dt_eqD {x y : Ab} {d e : PyData} (hu : X.A.units + 64 < cLine) (ha : DE X rs M ρ a (Is x)) (hb : DE X rs M ρ b (Is y)) (hx : View X.K rs M x d) (hy : View X.K rs M y e) (sd : SeqAt.shaped d = true) (se : SeqAt.shaped e = true) : DT X rs M ρ (.Compare a [.Eq] [b] pos) (fun c => c = PyData.eqv d e) :=
  dt_cmp (op_eqD hu) ha hb (fun _ _ e1 e2 => by subst e1 e2; exact ar_eqD hx hy sd se ⟨_, rfl, rfl⟩) (nomark _)
theorem dt_neD {x y : Ab} {d e : PyData} (hu : X.A.units + 64 < cLine) (ha : DE X rs M ρ a (Is x)) (hb : DE X rs M ρ b (Is y)) (hx : View X.K rs M x d) (hy : View X.K rs M y e) (sd : SeqAt.shaped d = true) (se : SeqAt.shaped e = true) : DT X rs M ρ (.Compare a [.NotEq] [b] pos) (fun c => c = !PyData.eqv d e) :=
  dt_cmp (op_neD hu) ha hb (fun _ _ e1 e2 => by subst e1 e2; exact ar_neD hx hy sd se ⟨_, rfl, rfl⟩) (nomark _)

/-! ### sequences -/
theorem de_len {xs : List Ab} (hm : X.mg "len" = none) (ha : DE X rs M ρ e (Is x)) (hs : Seqs X.K rs M x xs) (hg : Gl X "len" := by rfl) (he : starEach [e] X.env = (false, eval e X.env) :: starEach [] X.env := by rfl) :
    DE X rs M ρ (.Call (.Name "len" p) [e] [] pos) (Is (aI (xs.length : Int))) := de_callB cr_lenS hg hm PySem.boot_len (da_cons ha da_nil he) (fun as e1 => by subst e1; exact ac_len hs rfl) (hs := he)
theorem de_ix {xs : List Ab} {y : Ab} (ha : DE X rs M ρ a (Is x)) (hb : DE X rs M ρ b (Is (aI i))) (hs : Seqs X.K rs M x xs) (hy : atI xs i = some y) (hp : PlainIx b := by exact fun _ _ => rfl) : DE X rs M ρ (.Subscript a b pos) (Is y) :=
  pe_weak (pe_ix ix_seq ha hb hp) fun σ H Q ⟨G, l, ok, k⟩ => tD_go l ok fun v z G1 H1 ry rep1 l1 ok1 n1 => tD_go l1 ok1 fun u w G2 H2 rz rep2 l2 ok2 n2 => by
    subst ry rz
    exact ar_ix (R := Is y) hs hy rfl G2 H2 v u Q ok2 (rep1.same n2.g) rep2 fun w c G3 H3 rc rep3 n3 => k w c G3 H3 rc rep3 (n1.trans (n2.trans n3 ok1) ok)
/-- the index drawn -/
theorem de_ixR {xs : List Ab} (ha : DE X rs M ρ a (Is x)) (hb : DE X rs M ρ b Rb) (hs : Seqs X.K rs M x xs) (hy : ∀ z, Rb z → ∃ i y, z = aI i ∧ atI xs i = some y ∧ R y) (hp : PlainIx b := by exact fun _ _ => rfl) : DE X rs M ρ (.Subscript a b pos) R :=
  pe_weak (pe_ix ix_seq ha hb hp) fun σ H Q ⟨G, l, ok, k⟩ => tD_go l ok fun v z G1 H1 ry rep1 l1 ok1 n1 => tD_go l1 ok1 fun u w G2 H2 rz rep2 l2 ok2 n2 => by
    subst ry
    obtain ⟨i, y, rfl, h1, h2⟩ := hy w rz
    exact ar_ix (R := R) hs h1 h2 G2 H2 v u Q ok2 (rep1.same n2.g) rep2 fun w c G3 H3 rc rep3 n3 => k w c G3 H3 rc rep3 (n1.trans (n2.trans n3 ok1) ok)
/-- t + u -/
theorem de_catT {ds es : List PyData} (ha : DE X rs M ρ a (Is (aT ds))) (hb : DE X rs M ρ b (Is (aT es))) (hl : ds.length + es.length ≤ 100000) : DE X rs M ρ (.BinOp a .Add b pos) (Is (aT (ds ++ es))) :=
  de_op op_catA ha hb fun y z e1 e2 => fun G H v u Q ok r1 r2 k => by
    subst e1 e2
    obtain ⟨p1, w1, rfl, s1, ra1⟩ := tup_get ok r1
    obtain ⟨p2, w2, rfl, s2, ra2⟩ := tup_get ok r2
    have l1 : w1.length = ds.length := by rw [ra1.length, List.length_map]
    have l2 : w2.length = es.length := by rw [ra2.length, List.length_map]
    refine ⟨p1, p2, w1, w2, rfl, rfl, s1, s2, by rw [l1, l2]; exact Nat.le_trans hl (by decide), fun hz => ?_, fun _ hz => ?_, fun _ _ q hq => ?_⟩
    · have : ds = [] := List.length_eq_zero_iff.mp (by rw [← l1, hz]; rfl)
      subst this
      exact k _ _ G H rfl r2 (Nxt.rfl ok)
    · have : es = [] := List.length_eq_zero_iff.mp (by rw [← l2, hz]; rfl)
      subst this
      refine k _ (aT (ds ++ [])) G H rfl ?_ (Nxt.rfl ok)
      rw [List.append_nil]
      exact r1
    · have n4 := Nxt.new (o := .tup (w1 ++ w2)) ok hq
      have rc := ra1.append ra2
      rw [← List.map_append] at rc
      exact k (.ref q) _ _ _ rfl (Dp.tup (.inl (.inl upd_same)) (dpAll_same n4.g _ _ (repAll_dp.mp rc))) n4
/-- (a, ..) * k -/
theorem de_repT {ds : List PyData} {k : Int} (ha : DE X rs M ρ a (Is (aT ds))) (hb : DE X rs M ρ b (Is (aI k))) (hd : ds ≠ []) (h2 : 2 ≤ k) (h3 : k ≤ 1000) (hl : ds.length ≤ 1000) : DE X rs M ρ (.BinOp a .Mult b pos) (Is (aT (List.replicate k.toNat ds).flatten)) :=
  de_op op_repT ha hb fun y z e1 e2 => fun G H v u Q ok r1 r2 kk => by
    subst e1 e2
    obtain ⟨p1, w1, rfl, s1, ra1⟩ := tup_get ok r1
    rw [rep_int r2]
    have l1 : w1.length = ds.length := by rw [ra1.length, List.length_map]
    refine ⟨p1, k, w1, rfl, rfl, s1, fun z => hd (List.length_eq_zero_iff.mp (by rw [← l1, z]; rfl)), h2, h3, by omega, fun q hq => ?_⟩
    have n4 := Nxt.new (o := .tup (List.replicate k.toNat w1).flatten) ok hq
    have rc := ra1.rep k.toNat
    rw [show (List.replicate k.toNat (ds.map Ab.d)).flatten = ((List.replicate k.toNat ds).flatten).map Ab.d by rw [List.map_flatten, List.map_replicate]] at rc
    exact kk (.ref q) _ _ _ rfl (Dp.tup (.inl (.inl upd_same)) (dpAll_same n4.g _ _ (repAll_dp.mp rc))) n4
/-- tuple(x) -/
theorem de_tupleOf {ds : List PyData} (hm : X.mg "tuple" = none) (ha : DE X rs M ρ e (Is x)) (hs : Seqs X.K rs M x (ds.map .d)) (hg : Gl X "tuple" := by rfl) (he : starEach [e] X.env = (false, eval e X.env) :: starEach [] X.env := by rfl) :
    DE X rs M ρ (.Call (.Name "tuple" p) [e] [] pos) (Is (aT ds)) :=
  pe_weak (pe_tupleOf hg hm ha he) fun σ H Q ⟨G, l, ok, k⟩ => ⟨G, l, ok, fun v y G1 H1 ry rep n => by
    subst ry
    have ok1 := ok.nxt n
    rcases hs with hs | ⟨ds', rfl, e2⟩
    · obtain ⟨q, ws, rfl, s, ra⟩ := hs.get ok1 rep
      refine .inl ⟨q, ws, rfl, s, fun z hz => ?_⟩
      have n4 := Nxt.new (o := .tup ws) ok1 hz
      exact k (.ref z) _ _ _ rfl (Dp.tup (.inl (.inl upd_same)) (dpAll_same n4.g _ _ (repAll_dp.mp ra))) (n.trans n4 ok)
    · obtain ⟨q, ws, rfl, s, ra⟩ := tup_get ok1 rep
      have e3 : ds = ds' := (List.map_inj_right (fun _ _ h => Ab.d.inj h)).mp e2
      subst e3
      exact .inr ⟨q, ws, rfl, s, k _ _ G1 H1 rfl rep n⟩⟩
/-- tuple(e), e a list whatever it is told to be -/
theorem de_tupleOfR (hm : X.mg "tuple" = none) (ha : DE X rs M ρ e Ra) (hs : ∀ x, Ra x → ∃ ds, x = aL ds ∧ R (aT ds)) (hg : Gl X "tuple" := by rfl) (he : starEach [e] X.env = (false, eval e X.env) :: starEach [] X.env := by rfl) :
    DE X rs M ρ (.Call (.Name "tuple" p) [e] [] pos) R :=
  pe_weak (pe_tupleOf hg hm ha he) fun σ H Q ⟨G, l, ok, k⟩ => ⟨G, l, ok, fun v y G1 H1 ry rep n => by
    obtain ⟨ds, rfl, r⟩ := hs y ry
    have ok1 := ok.nxt n
    obtain ⟨q, ws, rfl, s, ra⟩ := (seqM_l ds).l.get ok1 rep
    refine .inl ⟨q, ws, rfl, s, fun z hz => ?_⟩
    have n4 := Nxt.new (o := .tup ws) ok1 hz
    exact k (.ref z) _ _ _ r (Dp.tup (.inl (.inl upd_same)) (dpAll_same n4.g _ _ (repAll_dp.mp ra))) (n.trans n4 ok)⟩
/-- list(x) -/
def rListS (K : PySem.W.Frag) : List V → Hp → VK → Prop := fun xs H Q => ∃ p ys, xs = [.ref p] ∧ (SqL K H p ys ∨ SqT K H p ys) ∧ ∀ l, H l = none → Q (.ref l) (upd H l (.lst ys))
theorem cr_listS : CallR X (.type "list") (rListS X.K) := call_list_of
theorem dn_listOf {xs : List Ab} (hm : X.mg "list" = none) (ha : DE X rs M ρ e (Is x)) (hs : Seqs X.K rs M x xs) (hg : Gl X "list" := by rfl) (he : starEach [e] X.env = (false, eval e X.env) :: starEach [] X.env := by rfl) :
    DN X rs M ρ (.Call (.Name "list" p) [e] [] pos) (fun as => as = xs) := dn_callTy cr_listS hg hm (by decide +kernel) (da_cons ha da_nil he) (fun as e1 => fun G H vs Q ok reps k => by
      subst e1
      match vs, reps with
      | [v], ⟨rv, _⟩ =>
        obtain ⟨q, ws, rfl, s, ra⟩ := hs.get ok rv
        exact ⟨q, ws, rfl, s, fun z hz => k z _ _ G _ rfl ra upd_same (ok.gnone hz) hz (Nxt.newM ok hz)⟩) (hs := he)
/-- list(range(n)) -/
theorem dn_listRange (hc : X.calm = true) (hm : X.mg "list" = none) (hm2 : X.mg "range" = none) (ha : DE X rs M ρ e (Is (aI i))) (h0 : 0 ≤ i) (h1 : i ≤ 100000) {p3 pos3 : Pos} (hg : Gl X "list" := by rfl) (hg2 : Gl X "range" := by rfl) (he : starEach [e] X.env = (false, eval e X.env) :: starEach [] X.env := by rfl)
    (he2 : starEach [Expr.Call (.Name "range" p3) [e] [] pos3] X.env = (false, eval (Expr.Call (.Name "range" p3) [e] [] pos3) X.env) :: starEach [] X.env := by rfl) :
    DN X rs M ρ (.Call (.Name "list" p) [.Call (.Name "range" p3) [e] [] pos3] [] pos) (fun as => as = (List.range i.toNat).map fun (k : Nat) => aI (k : Int)) :=
  pe_weak (pe_listRg hc hg hm (prg_1 hg2 hm2 ha he) he2) fun σ H Q ⟨G, l, ok, k⟩ => ⟨G, l, ok, fun v y G1 H1 ry rep n => by
    subst ry
    rw [rep_int rep]
    have ok1 := ok.nxt n
    refine ⟨i, rfl, ⟨by decide, by decide, by omega, by omega, by omega⟩, fun z hz => k z _ _ G1 _ rfl ?_ upd_same (ok1.gnone hz) (fresh_of ok n hz) (n.trans (Nxt.newM ok1 hz) ok)⟩
    have e1 : rgV 0 i = ((List.range i.toNat).map fun k => ((k : Nat) : Int)).map V.int := by
      unfold rgV
      rw [List.map_map, Int.sub_zero]
      exact List.map_congr_left fun k _ => by show V.int (0 + (k : Int)) = V.int (k : Int); rw [Int.zero_add]
    have e2 : ((List.range i.toNat).map fun (k : Nat) => aI (k : Int)) = ((List.range i.toNat).map fun k => ((k : Nat) : Int)).map aI := by
      rw [List.map_map]
      rfl
    rw [e1, e2]
    exact ints_repAll _⟩
/-- int(n), abs(n) -/
theorem de_intOf (hm : X.mg "int" = none) (ha : DE X rs M ρ e (Is (aI i))) (hg : Gl X "int" := by rfl) (he : starEach [e] X.env = (false, eval e X.env) :: starEach [] X.env := by rfl) : DE X rs M ρ (.Call (.Name "int" p) [e] [] pos) (Is (aI i)) :=
  de_callTy call_int1 hg hm (by decide +kernel) (da_cons ha da_nil he) (fun as e1 => fun G H vs Q ok reps k => by
    subst e1
    match vs, reps with
    | [v], ⟨rv, _⟩ =>
      rw [rep_int rv]
      exact .inl ⟨i, rfl, k _ _ G H rfl (Dp.int _) (Nxt.rfl ok)⟩) (hs := he)
theorem de_intOfB {c : Bool} (hm : X.mg "int" = none) (ha : DE X rs M ρ e (Is (aB c))) (hg : Gl X "int" := by rfl) (he : starEach [e] X.env = (false, eval e X.env) :: starEach [] X.env := by rfl) : DE X rs M ρ (.Call (.Name "int" p) [e] [] pos) (Is (aI (if c then 1 else 0))) :=
  de_callTy call_int1 hg hm (by decide +kernel) (da_cons ha da_nil he) (fun as e1 => fun G H vs Q ok reps k => by
    subst e1
    match vs, reps with
    | [v], ⟨rv, _⟩ =>
      rw [rep_bl rv]
      exact .inr ⟨c, rfl, k _ _ G H rfl (Dp.int _) (Nxt.rfl ok)⟩) (hs := he)
theorem de_abs (hm : X.mg "abs" = none) (ha : DE X rs M ρ e (Is (aI i))) (hg : Gl X "abs" := by rfl) (he : starEach [e] X.env = (false, eval e X.env) :: starEach [] X.env := by rfl) : DE X rs M ρ (.Call (.Name "abs" p) [e] [] pos) (Is (aI (if i < 0 then -i else i))) :=
  de_callB call_abs hg hm (by decide +kernel) (da_cons ha da_nil he) (fun as e1 => fun G H vs Q ok reps k => by
    subst e1
    match vs, reps with
    | [v], ⟨rv, _⟩ =>
      rw [rep_int rv]
      exact ⟨i, rfl, k _ _ G H rfl (Dp.int _) (Nxt.rfl ok)⟩) (hs := he)
/-- i.bit_length() -/
theorem de_bits {apos : Pos} (ha : DE X rs M ρ e (Is (aI i))) (hb : attributeBase e "bit_length" X.env (eval e X.env) = eval e X.env := by rfl) (hl : (apos.endLine == pos.line) = true := by rfl) :
    DE X rs M ρ (.Call (.Attribute e "bit_length" apos) [] [] pos) (Is (aI (Builtin.Int.intBits i : Nat))) := pe_weak (pe_bits ha hb hl) fun σ H Q ⟨G, l, ok, k⟩ => ⟨G, l, ok, fun v y G1 H1 ry rep n => by
      subst ry
      rw [rep_int rep]
      exact ⟨i, rfl, k _ _ G1 H1 rfl (Dp.int _) n⟩⟩

/-- xs + ys, xs * k: new lists -/
theorem dn_cat {xs ys : List Ab} (ha : DE X rs M ρ a (Is x)) (hb : DE X rs M ρ b (Is y)) (hx : SeqM X.K rs M x xs) (hy : SeqM X.K rs M y ys) (hl : xs.length + ys.length ≤ 100000) : DN X rs M ρ (.BinOp a .Add b pos) (fun as => as = xs ++ ys) :=
  dn_op op_cat ha hb fun _ _ e1 e2 => fun G H v u Q ok r1 r2 k => by
    subst e1 e2
    obtain ⟨p1, w1, rfl, s1, ra1⟩ := hx G H v ok r1
    obtain ⟨p2, w2, rfl, s2, ra2⟩ := hy G H u ok r2
    exact ⟨p1, p2, w1, w2, rfl, rfl, s1, s2, by rw [ra1.length, ra2.length]; exact Nat.le_trans hl (by decide), fun q hq => k q _ _ G _ rfl (ra1.append ra2) upd_same (ok.gnone hq) hq (Nxt.newM ok hq)⟩
theorem dn_rep {xs : List Ab} {k : Int} (ha : DE X rs M ρ a (Is x)) (hb : DE X rs M ρ b (Is (aI k))) (hx : SeqM X.K rs M x xs) (h1 : -(2 ^ 63) ≤ k) (h2 : k < 2 ^ 63) (hl : xs.length * k.toNat ≤ 100000) : DN X rs M ρ (.BinOp a .Mult b pos) (fun as => as = (List.replicate k.toNat xs).flatten) :=
  dn_op op_rep ha hb fun _ _ e1 e2 => fun G H v u Q ok r1 r2 kk => by
    subst e1 e2
    obtain ⟨p1, w1, rfl, s1, ra1⟩ := hx G H v ok r1
    rw [rep_int r2]
    exact ⟨p1, k, w1, rfl, rfl, s1, h1, h2, by rw [ra1.length]; exact Nat.le_trans hl (by decide), fun q hq => kk q _ _ G _ rfl (ra1.rep _) upd_same (ok.gnone hq) hq (Nxt.newM ok hq)⟩
end
/-! ### repr -/
mutual
theorem dp_noDict {K : PySem.W.Frag} {G : Hp} : ∀ (d : PyData) (v : V), L2.Dp K G v d → d.hasDict = false
  | .none, _, _ => by simp only [PyData.hasDict]
  | .bool _, _, _ => by simp only [PyData.hasDict]
  | .int _, _, _ => by simp only [PyData.hasDict]
  | .str _, _, _ => by simp only [PyData.hasDict]
  | .list ds, _, h => by
    cases h with
    | lst hs ha =>
      simp only [PyData.hasDict]
      exact dpAll_noDict ds _ ha
  | .tuple ds, _, h => by
    cases h with
    | tup hs ha =>
      simp only [PyData.hasDict]
      exact dpAll_noDict ds _ ha
  | .dict _, _, h => by cases h
theorem dpAll_noDict {K : PySem.W.Frag} {G : Hp} : ∀ (ds : List PyData) (vs : List V), L2.DpAll K G vs ds → PyData.hasDictAll ds = false
  | [], _, _ => by simp only [PyData.hasDictAll]
  | d :: ds, _, h => by
    cases h with
    | cons h1 h2 =>
      simp only [PyData.hasDictAll]
      rw [dp_noDict d _ h1, dpAll_noDict ds _ h2]
      rfl
end
/-- data that repr shows: how deep, how long at most -/
structure Sz (D L : Nat) (d : PyData) : Prop where
  sh : d.showable = true
  dp : d.depth ≤ D
  ln : d.shown.length ≤ L
theorem Sz.mono {D L D' L' : Nat} {d : PyData} (h : Sz D L d) (a : D ≤ D') (b : L ≤ L') : Sz D' L' d := ⟨h.sh, Nat.le_trans h.dp a, Nat.le_trans h.ln b⟩
theorem log2_lt_pow {n k : Nat} (hk : 0 < k) (h : n < 2 ^ k) : n.log2 < k := PySem.Flt.log2_lt_of hk h
theorem sz_int {i : Int} (k : Nat) (h : i.natAbs < 2 ^ k) (h0 : 0 < k) (hk : k ≤ 1900) : Sz 0 (k + 1) (.int i) := by
  have hl : i.natAbs.log2 < k := log2_lt_pow h0 h
  refine ⟨by simp only [PyData.showable]; exact decide_eq_true (by omega), by simp [PyData.depth], ?_⟩
  rw [PyData.shown_int]
  rw [show (Str.ofString (toString i)).length = (toString i).length from PySem.ofString_length _]
  exact PySem.int_text_length_le h0 hl
theorem sz_all {D L : Nat} : ∀ {ds : List PyData}, (∀ d ∈ ds, Sz D L d) → PyData.showableAll ds = true ∧ PyData.depthAll ds ≤ D ∧ ((PyData.shownAll ds).map (·.length)).sum ≤ ds.length * L
  | [], _ => ⟨by simp only [PyData.showableAll], by simp [PyData.depthAll], by simp [PyData.shownAll]⟩
  | d :: ds, h => by
    obtain ⟨h1, h2, h3⟩ := sz_all (ds := ds) fun x hx => h x (List.mem_cons_of_mem _ hx)
    have hd := h d List.mem_cons_self
    refine ⟨?_, ?_, ?_⟩
    · simp only [PyData.showableAll]
      rw [hd.sh, h1]
      rfl
    · simp only [PyData.depthAll]
      exact Nat.max_le.mpr ⟨hd.dp, h2⟩
    · rw [PyData.shownAll_cons, List.map_cons, List.sum_cons, List.length_cons, Nat.succ_mul]
      have := hd.ln
      omega
theorem sz_tup {D L : Nat} {ds : List PyData} (h : ∀ d ∈ ds, Sz D L d) : Sz (D + 1) (ds.length * (L + 2) + 3) (.tuple ds) := by
  obtain ⟨h1, h2, h3⟩ := sz_all h
  refine ⟨by simp only [PyData.showable]; exact h1, by simp only [PyData.depth]; omega, ?_⟩
  have h4 := PySem.tupleText_len_le (PyData.shownAll ds)
  rw [PyData.shownAll_length] at h4
  show (PyData.shown (.tuple ds)).length ≤ _
  simp only [PyData.shown]
  rw [Nat.mul_add]
  omega
theorem sz_list {D L : Nat} {ds : List PyData} (h : ∀ d ∈ ds, Sz D L d) : Sz (D + 1) (ds.length * (L + 2) + 3) (.list ds) := by
  obtain ⟨h1, h2, h3⟩ := sz_all h
  refine ⟨by simp only [PyData.showable]; exact h1, by simp only [PyData.depth]; omega, ?_⟩
  have h4 := PySem.listText_len_le (PyData.shownAll ds)
  rw [PyData.shownAll_length] at h4
  show (PyData.shown (.list ds)).length ≤ _
  simp only [PyData.shown]
  rw [Nat.mul_add]
  omega
section
variable {X : Cx} {rs : Rs} {M : Mem} {ρ : List (Option Ab)} {e : Expr} {pos p : Pos} {R Ra : Ab → Prop} {x : Ab}
def rRepr (K : PySem.W.Frag) : List V → Hp → VK → Prop := fun xs H Q => ∃ v d, xs = [v] ∧ L2.Dp K H v d ∧ ((∃ ds, d = .list ds) ∨ (∃ ds, d = .tuple ds) ∨ ∃ i, d = .int i) ∧ Sz 50 10000000 d ∧ Q (.str d.shown) H
theorem cr_repr (gd : X.A.guards = some []) (hu : X.A.units + 64 < cLine) : CallR X (.builtin "repr") (rRepr X.K) := by
  intro pins s σ H xs us Q I r h
  obtain ⟨v, d, rfl, hd, kind, sz, q⟩ := h
  obtain ⟨u, rfl, ru⟩ := vals1 r
  obtain ⟨as, rd⟩ := L2.Dp.reads I d v u hd ru
  have nod : d.hasDict = true → sysModules ∉ as := fun z => by rw [dp_noDict d v hd] at z; cases z
  have fits : d.shown.length ≤ sizeLine := Nat.le_trans sz.ln (by decide)
  have deep := sz.dp
  have byRef : ∀ a, u = .ref a → wpAny (model X.prog X.w) X.A (call (.builtin "repr") [u]) (EP X pins σ Q) X.xe s := by
    intro a ea
    subst ea
    exact repr_of_reads' rd sz.sh nod gd (by omega) (fun _ _ e => e) (fun h' t tk keep => ⟨.str d.shown, H, I.kept keep, ⟨t, rfl⟩, q⟩) fits
  rcases kind with ⟨ds, rfl⟩ | ⟨ds, rfl⟩ | ⟨i, rfl⟩
  · cases hd with
    | lst hs ha => exact byRef _ ru
  · cases hd with
    | tup hs ha => exact byRef _ ru
  · cases hd
    obtain ⟨t, rfl⟩ := ru
    have hz : i.natAbs.log2 < 1920 := by
      have z := sz.sh
      simp only [PyData.showable] at z
      exact of_decide_eq_true z
    refine PySem.P.repr_of_int hz ⟨.str _, H, I.tok _, ⟨_, rfl⟩, ?_⟩
    rw [PyData.shown_int] at q
    exact q
abbrev aR (d : PyData) : Ab := aS d.shown
theorem de_repr {d : PyData} (gd : X.A.guards = some []) (hu : X.A.units + 64 < cLine) (hm : X.mg "repr" = none) (ha : DE X rs M ρ e (Is x)) (hx : View X.K rs M x d) (kind : (∃ ds, d = .list ds) ∨ (∃ ds, d = .tuple ds) ∨ ∃ i, d = .int i) (sz : Sz 50 10000000 d) (hg : Gl X "repr" := by rfl)
    (he : starEach [e] X.env = (false, eval e X.env) :: starEach [] X.env := by rfl) : DE X rs M ρ (.Call (.Name "repr" p) [e] [] pos) (Is (aR d)) :=
  de_callB (cr_repr gd hu) hg hm (by decide +kernel) (da_cons ha da_nil he) (fun as e1 => fun G H vs Q ok reps k => by
    subst e1
    match vs, reps with
    | [v], ⟨rv, _⟩ => exact ⟨v, d, rfl, hx G H v ok rv, kind, sz, k _ _ G H rfl (Dp.str _) (Nxt.rfl ok)⟩) (hs := he)
/-- of data told by a word -/
theorem de_reprR (gd : X.A.guards = some []) (hu : X.A.units + 64 < cLine) (hm : X.mg "repr" = none) (ha : DE X rs M ρ e Ra) (hx : ∀ x, Ra x → ∃ d, x = .d d ∧ ((∃ ds, d = .list ds) ∨ (∃ ds, d = .tuple ds) ∨ ∃ i, d = .int i) ∧ Sz 50 10000000 d ∧ R (aR d)) (hg : Gl X "repr" := by rfl)
    (he : starEach [e] X.env = (false, eval e X.env) :: starEach [] X.env := by rfl) : DE X rs M ρ (.Call (.Name "repr" p) [e] [] pos) R :=
  de_callB (T := fun as => ∃ y, as = [y] ∧ Ra y) (cr_repr gd hu) hg hm (by decide +kernel) (da_consR ha da_nil (fun y ys h1 h2 => ⟨y, by rw [h2], h1⟩) he) (fun as ⟨y, e1, hy⟩ => fun G H vs Q ok reps k => by
    subst e1
    obtain ⟨d, rfl, kind, sz, r⟩ := hx y hy
    match vs, reps with
    | [v], ⟨rv, _⟩ => exact ⟨v, d, rfl, (dp_same ok.gh _ _ rv).old, kind, sz, k _ _ G H r (Dp.str _) (Nxt.rfl ok)⟩) (hs := he)
end
end HW
/-! Own layer, part E: enumerate of a tuple. -/
namespace HW
open PySem PySem.Spec PyProof.Rows L2 RZ

set_option maxHeartbeats 1000000 in
theorem meets_enum1 {v : Value} {o : Obj} {F : Heap → Prop} (B : Begins v o F) :
    Meets (Builtin.«enumerate.__new__» { pos := [.type "enumerate", v], kw := [] }) (fun _ R s => F s.heap ∧
      R (.ok (.ret (.ref (s.heap.push o).objs.size))) { s with heap := Heap.push (s.heap.push o) { cls := .type "enumerate", data := .fields #[.none, .bool false, .ref s.heap.objs.size, rawInt 0, .none, .none] } }) := by
  refine Meets.of_wp ?_
  intro prog w A R s both
  obtain ⟨hp, gs, dr, tk, os⟩ := s
  obtain ⟨holds, fin⟩ := both
  have below := sub_enumerate
  have begin_ : ∀ {B' : Around} {E Q : Value → Shared → Prop}, Q (.ref hp.objs.size) { heap := hp.push o, gens := gs, drawn := dr, toks := tk, os := os } → wpAny (model prog w) B' (pyIter v) Q E { heap := hp, gens := gs, drawn := dr, toks := tk, os := os } := by
    intro B' E Q q
    exact B.iter prog w B' E { heap := hp, gens := gs, drawn := dr, toks := tk, os := os } Q holds q
  wp_walk using begin_
  refine wpAny_stack_any (fun st => wpAny_pure ?_)
  split
  · rename_i c _ _ _ _ _
    cases (c == Value.type "enumerate") <;> (wp_walk using begin_; exact ⟨_, rfl, fin⟩)
  · wp_walk using begin_
    exact ⟨_, rfl, fin⟩
section
variable {prog : Program} {w : World} {A : Around} {E : Value → Shared → Prop} {s : Shared}
theorem enum1_call {v : Value} {o : Obj} {F : Heap → Prop} {Q : Value → Shared → Prop} (B : Begins v o F) (holds : F s.heap)
    (fin : ∀ h', IsEnum h' (s.heap.objs.size + 1) s.heap.objs.size 0 .none → h'.get? s.heap.objs.size = some o → (∀ b o', s.heap.get? b = some o' → h'.get? b = some o') → Q (.ref (s.heap.objs.size + 1)) { s with heap := h' }) :
    wpAny (model prog w) A (call (.type "enumerate") [v]) Q E s := by
  refine callType_new PySem.F.called_enumerate (by decide) (PySem.F.typeCall_enumerate_1 _) (PySem.F.newCall_enumerate_1 _) (fun ob => PySem.F.args_object_init_2 ob _) PySem.F.entry_enumerate_new (meets_enum1 B) (And.intro holds ?_)
  have one : Array.size (Heap.objs (s.heap.push o)) = s.heap.objs.size + 1 := Heap.size_push ..
  have rec_ := Heap.get?_push_size (s.heap.push o) (o := { cls := .type "enumerate", data := .fields #[.none, .bool false, .ref s.heap.objs.size, rawInt 0, .none, .none] }) rfl
  show _ ∧ _
  rw [one] at rec_ ⊢
  exact And.intro ⟨_, rec_, rfl⟩ (fin _ rec_ (Heap.get?_push_of_some _ (Heap.get?_push_size _ B.free)) (fun b o' e => Heap.get?_push_of_some _ (Heap.get?_push_of_some _ e)))
end

/-- the tuple at a as it stands at each turn, its items in new pairs -/
def ItU (K : PySem.W.Frag) (a : Addr) : It where
  go := fun i H => ∃ (xs : List V) (x : V), SqT K H a xs ∧ xs[i]? = some x
  yld := fun i H v H' => ∃ T x, v = .ref T ∧ H T = none ∧ H' = upd H T (.tup [.int (i : Nat), x]) ∧ ∀ xs, SqT K H a xs → xs[i]? = some x
  stop := fun i H => ∃ xs : List V, SqT K H a xs ∧ xs.length = i
theorem turn_enumU {P : Program} {w : World} {K : PySem.W.Frag} {elts : List Expr} {kk : Nat} {tpos : Pos} (a e it : Addr) :
    Turn P w K (.Tuple elts kk tpos) (ItU K a) [e, it] e (fun i h => (∃ old, IsEnum h e it ((i : Nat) : Int) old) ∧ h.IsTupleIter it a i ∧ e ≠ it ∧ a ≠ it ∧ a ≠ e) where
  mem := List.mem_cons_self
  obj := by
    intro i h st b hb
    obtain ⟨⟨old, he⟩, ⟨o, ho, hc, hd⟩, _⟩ := st
    rcases List.mem_cons.mp hb with z | z
    · refine ⟨_, z ▸ he, fun v q => ?_⟩
      cases q
    · exact ⟨o, (List.mem_singleton.mp z) ▸ ho, fun v q => by rw [hd] at q; cases q⟩
  keep := by
    intro i h h' st k
    obtain ⟨⟨old, he⟩, hit, rest⟩ := st
    exact ⟨⟨old, k e List.mem_cons_self _ he⟩, hit.at fun o q => k it (List.mem_cons_of_mem _ List.mem_cons_self) o q, rest⟩
  item := by
    intro X hP hw hK hc i pins s σ H E I hf st hg
    subst hP hw hK
    obtain ⟨⟨old, he⟩, hit, n1, n2, n3⟩ := st
    obtain ⟨xs, x, hq, hx⟩ := hg
    obtain ⟨its, rv, pt, hz⟩ := I.tuple hq
    have hlt : i < its.toArray.size := by
      have := (List.getElem?_eq_some_iff.mp hx).1
      rw [List.size_toArray, ← rv.length]
      exact this
    have el : e < s.heap.objs.size := Heap.lt_size he
    have il : it < s.heap.objs.size := by
      obtain ⟨_, q, _⟩ := hit
      exact Heap.lt_size q
    have D : Draws X.prog X.w X.A.in1 it [it, a] its.toArray.size (fun j v => its.toArray[j]? = some v) (fun j h => h.IsTupleIter it a j ∧ h.IsTuple a its.toArray) := Draws.tuple (show X.A.in1.handled = none from I.ok.hd hc) it a n2 _
    refine wpAny_pyNext_enum_itemD D he (And.intro hit (show s.heap.IsTuple a its.toArray from pt)) hlt n1 (by simp [n1, n3.symm]) fun u h' tk hu ho hst hT hsz hk => ?_
    refine ⟨_, rfl, wpAny_letOwnedTupleGo_enum (s := { s with heap := h', toks := tk + 1 }) ho fun h2 he2 sb => ?_⟩
    obtain ⟨y, hy, ry⟩ : ∃ y, xs[i]? = some y ∧ RelV y u := by
      obtain ⟨u', hu', ru'⟩ := rv.get hx
      have : u' = u := by
        have z : its.toArray[i]? = some u' := by simpa using hu'
        rw [hu] at z
        exact (Option.some.inj z).symm
      exact ⟨x, hx, this ▸ ru'⟩
    have hT2 : h2.get? s.heap.objs.size = some { cls := .type "tuple", data := .seq #[.int i tk, u] } := (sb.2 _ (Nat.ne_of_gt el)).trans hT
    have new : ObjOk X.prog X.w (upd H s.heap.objs.size (.tup [.int (i : Nat), y])) h2 s.heap.objs.size (.tup [.int (i : Nat), y]) :=
      And.intro (by show 2 ≤ sizeLine; decide) ⟨[.int i tk, u], .cons ⟨_, rfl⟩ (.cons ry .nil), ⟨_, hT2, rfl, _, rfl⟩⟩
    have I1 : Inv X pins σ (upd H s.heap.objs.size (.tup [.int (i : Nat), y])) { s with heap := h2, toks := tk + 1 } :=
      I.turnedNew (ch := [e, it]) (fun b ob hb q => (sb.2 b fun z => hb (z ▸ List.mem_cons_self)).trans (hk b ob (fun z => hb (z ▸ List.mem_cons_self)) (fun z => hb (z ▸ List.mem_cons_of_mem _ List.mem_cons_self)) q)) hf (Nat.le_refl _) new
    refine ⟨.ref s.heap.objs.size, _, I1, rfl, ⟨_, y, rfl, I.hok.fresh (Nat.le_refl _), rfl, fun ys hys => by rw [I.tuple_inj hys hq]; exact hy⟩, ⟨⟨u, ?_⟩, hst.1.at fun o q => (sb.2 it (Ne.symm n1)).trans q, n1, n2, n3⟩, fun b hb => ?_⟩
    · rw [show ((i + 1 : Nat) : Int) = (i : Int) + 1 by omega]
      exact he2
    · have hb' : b < s.heap.objs.size := by
        rcases List.mem_cons.mp hb with z | z
        · exact z ▸ el
        · exact (List.mem_singleton.mp z) ▸ il
      rw [upd_ne (Nat.ne_of_lt hb')]
      exact (hf b hb).1
  done := by
    intro X hP hw hK hc i pins s σ H E I hf st hg
    subst hP hw hK
    obtain ⟨⟨old, he⟩, hit, n1, n2, n3⟩ := st
    obtain ⟨xs, hq, hx⟩ := hg
    obtain ⟨its, rv, pt, hz⟩ := I.tuple hq
    obtain ⟨f0, f1, f2, f3, f4, f5⟩ := hf it (List.mem_cons_of_mem _ List.mem_cons_self)
    have D : Draws X.prog X.w X.A.in1 it [it, a] its.toArray.size (fun j v => its.toArray[j]? = some v) (fun j h => h.IsTupleIter it a j ∧ h.IsTuple a its.toArray) := Draws.tuple (show X.A.in1.handled = none from I.ok.hd hc) it a n2 _
    have here : i = its.toArray.size := by
      rw [List.size_toArray, ← rv.length, hx]
    exact wpAny_pyNext_enum_endD D he (And.intro (here ▸ hit) (show s.heap.IsTuple a its.toArray from pt)) fun h' eb => And.intro rfl (I.turned (t' := s.toks) (fun b o hb q => eb b o hb q) f0 f1 f3 f4 f5)
  self := by
    intro A i s Q E st h
    obtain ⟨⟨_, he⟩, _⟩ := st
    exact wpAny_pyIter_enum he h
def iEnumU (K : PySem.W.Frag) (ta : TA) : TI := fun σ H R => ta σ H fun vs H1 => ∃ a xs, vs = [.ref a] ∧ SqT K H1 a xs ∧ R (ItU K a) H1
section
variable {X : Cx} {rs : Rs} {M : Mem} {ρ : List (Option Ab)} {e : Expr} {p pos tpos : Pos} {elts : List Expr} {kk : Nat} {RI : Nat → (Nat → Ab → Prop) → Prop}
theorem pi_enumU {ta : TA} (hg : Gl X "enumerate") (hm : X.mg "enumerate" = none) (ha : PA X [e] ta) (hs : starEach [e] X.env = [(false, eval e X.env)] := by rfl) : PI X (.Tuple elts kk tpos) (.Call (.Name "enumerate" p) [e] [] pos) (iEnumU X.K ta) := by
  constructor
  intro pins s σ H R I h
  refine Call_ (ld_blt I hg hm boot_enumerate (PyProof.Rows.callWith_type1 (thn (ha.run pos pins s σ H _ I h) fun us s1 got => ?_) hs rfl))
  obtain ⟨vs, H1, I1, r1, a, xs, same, hq, fin⟩ := got
  subst same
  match us, r1 with
  | [_], .cons (a := V.ref _) same .nil =>
    have same : _ = Value.ref a := same
    subst same
    obtain ⟨its, rv, pt, hz⟩ := I1.tuple hq
    have there : a < s1.heap.objs.size := by
      obtain ⟨o, q, _⟩ := pt
      exact Heap.lt_size q
    refine enum1_call (begins_tuple a its.toArray) (show s1.heap.IsTuple a its.toArray from pt) fun h' he hit hk => wpAny_pyIter_enum he ?_
    have I2 : Inv X pins σ H1 { s1 with heap := h' } := I1.kept (t' := s1.toks) hk
    refine ⟨s1.heap.objs.size + 1, [s1.heap.objs.size + 1, s1.heap.objs.size], _, _, H1, rfl, I2, turn_enumU a (s1.heap.objs.size + 1) s1.heap.objs.size, ⟨⟨.none, he⟩, ⟨_, hit, rfl, rfl⟩, Nat.succ_ne_self _, Nat.ne_of_lt there, Nat.ne_of_lt (Nat.lt_succ_of_lt there)⟩, fun b hb => ?_, fin⟩
    have le : s1.heap.objs.size ≤ b := by
      rcases List.mem_cons.mp hb with z | z
      · exact z ▸ Nat.le_succ _
      · exact (List.mem_singleton.mp z) ▸ Nat.le_refl _
    exact I1.fpOk le (I1.hok.fresh le)
theorem itOk_enumU {K : PySem.W.Frag} {G : Hp} {a : Addr} {xs : List V} {ds : List PyData} (hx : SqT K G a xs) (rx : DpAll K G xs ds) : ItOk K G (ItU K a) ds.length (AtE ds) := fun rs M G1 H1 e ok => by
  have h1 : SqT K H1 a xs := sqT_same (e.trans ok.gh) hx
  have rx' := repAll_dp.mpr rx
  have lx : xs.length = ds.length := by rw [rx'.length, List.length_map]
  refine ⟨fun i hi => ?_, xs, h1, lx⟩
  obtain ⟨x, ex⟩ := getD_some (xs := xs) (i := i) (by omega)
  refine ⟨⟨xs, x, h1, ex⟩, fun v H2 yl => ?_⟩
  obtain ⟨T, x', rfl, hT, rfl, f1⟩ := yl
  obtain ⟨d', hd, rd⟩ := rx'.get' (f1 xs h1)
  rw [List.getElem?_map] at hd
  match qd : ds[i]?, hd with
  | some d, hd =>
    have hd : Ab.d d = d' := Option.some.inj hd
    subst hd
    obtain ⟨r, n⟩ := pair_nxt (x := .int (i : Int)) (d := .int (i : Int)) ok hT (Dp.int _) (dp_same e _ _ rd)
    exact ⟨_, _, ⟨d, qd, rfl⟩, r, n⟩
theorem di_enumT {T : List Ab → Prop} (hg : Gl X "enumerate") (hm : X.mg "enumerate" = none) (ha : DA X rs M ρ [e] T) (w : ∀ as, T as → ∃ ds, as = [aT ds] ∧ RI ds.length (AtE ds)) (hs : starEach [e] X.env = [(false, eval e X.env)] := by rfl) :
    DI X rs M ρ (.Tuple elts kk tpos) (.Call (.Name "enumerate" p) [e] [] pos) RI :=
  pi_weak (pi_enumU hg hm ha hs) fun σ H T ⟨G, l, ok, k⟩ => ⟨G, l, ok, fun vs as G1 H1 ry rep n => by
    obtain ⟨ds, rfl, ri⟩ := w as ry
    match vs, rep with
    | [v], ⟨r, _⟩ =>
      have r : Dp X.K G1 v (.tuple ds) := r
      cases r with
      | tup hx rx => exact ⟨_, _, rfl, sqT_same n.gh hx, k _ _ _ G1 H1 ri (itOk_enumU hx rx) n⟩⟩
end
end HW
/-! Own layer, part F: defs as they stand behind the top; the deck of the laws; small mathematics. -/
namespace HW
open PySem PySem.Spec PyProof.Rows L2 RZ

structure Df (K : PySem.W.Frag) (mg : Str → Option Value) (x : Str) (st : Stmt) : Type where
  f : Addr
  fd : FuncData
  F : Fun K x x st f fd
  g : mg x = some (.ref f)

/-! ### the deck -/
def deckRs (D C : Addr) : Rs where
  F := fun b => b = D ∨ b = C
  I := fun H => ∃ (cells : List Int) (m c : Int), H D = some (.lst [.ref C, .int m, .int c]) ∧ H C = some (.lst (cells.map V.int)) ∧ cells.length ≤ 63
  has := fun H b ⟨cells, m, c, h1, h2, _⟩ f => by
    rcases f with f | f
    · exact ⟨_, f ▸ h1⟩
    · exact ⟨_, f ▸ h2⟩
  st := fun H H' ⟨cells, m, c, h1, h2, h3⟩ k => ⟨cells, m, c, k D _ (.inl (.inl rfl)) h1, k C _ (.inl (.inr rfl)) h2, h3⟩
def deckM (D C : Addr) (cells : List Int) (m c : Int) : Mem := [⟨D, true, .lst [.at C, aI m, aI c]⟩, ⟨C, true, .lst ((cells.map .int).map .d)⟩]
theorem deck_open {K : PySem.W.Frag} {D C : Addr} {M : Mem} {G H : Hp} (ok : Ok K (deckRs D C) M G H) : ∃ cells m c, Ok K rs0 (deckM D C cells m c) G H ∧ cells.length ≤ 63 := by
  obtain ⟨cells, m, c, h1, h2, h3⟩ := ok.i
  refine ⟨cells, m, c, ⟨ok.gh, fun _ h => h.elim, trivial, fun e he => ?_, fun j k e f hj hk hp => ?_⟩, h3⟩
  · rcases List.mem_cons.mp he with rfl | he
    · exact ⟨ok.sep D (.inl rfl), fun h => h, _, h1, rfl, Dp.int m, Dp.int c, trivial⟩
    · cases List.mem_singleton.mp he
      exact ⟨ok.sep C (.inr rfl), fun h => h, _, h2, by rw [List.map_map]; exact ints_repAll cells⟩
  · have ne : D ≠ C := by
      rintro rfl
      rw [h1] at h2
      injection h2 with h2
      injection h2 with h2
      match cells, h2 with
      | n :: r, h2 =>
        rw [List.map_cons] at h2
        injection h2 with h2 _
        cases h2
    match j, k, hj, hk with
    | 0, 0, _, _ => rfl
    | 1, 1, _, _ => rfl
    | 0, 1, hj, hk =>
      cases hj
      cases hk
      exact absurd hp ne
    | 1, 0, hj, hk =>
      cases hj
      cases hk
      exact absurd hp.symm ne
    | 0, k + 2, _, hk => cases hk
    | 1, k + 2, _, hk => cases hk
    | j + 2, _, hj, _ => cases hj
theorem deck_close {K : PySem.W.Frag} {D C : Addr} {rs : Rs} {cells : List Int} {m c : Int} {G H : Hp} (ok : Ok K rs (deckM D C cells m c) G H) (hl : cells.length ≤ 63) : (deckRs D C).I H := by
  obtain ⟨_, _, vs, e1, r1⟩ := ok.m _ List.mem_cons_self
  obtain ⟨_, _, ws, e2, r2⟩ := ok.m _ (List.mem_cons_of_mem _ List.mem_cons_self)
  rw [List.map_map] at r2
  have e3 := repAll_ints r2
  subst e3
  match vs, r1 with
  | [a, b, d], ⟨q1, q2, q3, _⟩ =>
    have q1 : a = .ref C := q1
    rw [q1, rep_int q2, rep_int q3] at e1
    exact ⟨cells, m, c, e1, e2, hl⟩

theorem lay_ints : ∀ ns : List Int, PyData.canLayAll0 (ns.map .int) = true ∧ PyData.depthAll (ns.map .int) = 0
  | [] => ⟨by simp [PyData.canLayAll0], by simp [PyData.depthAll]⟩
  | n :: ns => by
    obtain ⟨h1, h2⟩ := lay_ints ns
    simp only [List.map_cons, PyData.canLayAll0, PyData.depthAll, PyData.canLay0, PyData.depth, h1, h2]
    exact ⟨rfl, rfl⟩
theorem shaped_ints (ns : List Int) : SeqAt.shaped (.list (ns.map .int)) = true := by
  obtain ⟨h1, h2⟩ := lay_ints ns
  unfold SeqAt.shaped
  simp only [PyData.canLay0, PyData.depth, h1, h2]
  rfl
theorem eqv_nil (ns : List Int) : PyData.eqv (.list (ns.map .int)) (.list []) = ns.isEmpty := by
  cases ns <;> simp [PyData.eqv, PyData.eqvAll]
def deckCell (x : Int) : Int := 2 * (if x < 0 then -x else x) + (if decide (x < 0) = true then 1 else 0)
/-- a number drawn below many -/
def Below (many : Int) : Ab → Prop := fun a => ∃ r, a = aI r ∧ 0 ≤ r ∧ r < many
/-- the promise of what makes a deck: its two lists are new, and no part of what stays -/
def SpecDeck (K : PySem.W.Frag) : Sp := fun vs H Q _ => ∃ (ns : List Int) (G : Hp) (v : V), vs = [v] ∧ Rep K G v (aScr K ns) ∧ ns.length ≤ 63 ∧ Ok K rs0 [] G H ∧ ∀ D C G' H', Nxt rs0 G H G' H' → (deckRs D C).I H' → G' D = none → G' C = none → H D = none → H C = none → Q (.ref D) H'
theorem ixN_nat {n j : Nat} (h : j < n) : ixN n (j : Int) = some j := by
  unfold ixN
  rw [if_pos (Int.natCast_nonneg j), if_pos (by omega)]
  rfl
theorem log2_small {i : Int} {k : Nat} (h0 : 0 ≤ i) (hk : 0 < k) (h : i < 2 ^ k) : i.natAbs.log2 < k := log2_lt_pow hk (by
  have e : ((2 ^ k : Nat) : Int) = 2 ^ k := by norm_cast
  omega)
/-! ### small mathematics -/
theorem two_pow_pos (k : Nat) : (0 : Int) < 2 ^ k := Int.pow_pos (by decide)
theorem int_lt_of_pow {x : Int} {k : Nat} (h0 : 0 ≤ x) (h : x < 2 ^ k) : x.natAbs < 2 ^ k := by
  have e : ((2 ^ k : Nat) : Int) = 2 ^ k := by norm_cast
  omega
/-- the bit of an int at a level -/
def bitI (x : Int) (k : Nat) : Int := x / 2 ^ k % 2
theorem bitI_range (x : Int) (k : Nat) : 0 ≤ bitI x k ∧ bitI x k < 2 := ⟨Int.emod_nonneg _ (by decide), Int.emod_lt_of_pos _ (by decide)⟩
theorem band_one {x : Int} (h : 0 ≤ x) : Builtin.bitAnd x 1 = x % 2 := by
  obtain ⟨n, rfl⟩ := Int.eq_ofNat_of_zero_le h
  show ((n &&& 1 : Nat) : Int) = _
  rw [Nat.and_one_is_mod]
  omega
/-- the number of a column -/
def colI : List Int → Nat → Int
  | [], _ => 0
  | x :: r, k => bitI x k + 2 * colI r k
theorem colI_snoc (k : Nat) (x : Int) : ∀ xs : List Int, colI (xs ++ [x]) k = colI xs k + bitI x k * 2 ^ xs.length
  | [] => by simp [colI]
  | y :: r => by
    rw [List.cons_append, colI, colI, colI_snoc k x r, List.length_cons, Int.pow_succ]
    have : 2 * (bitI x k * 2 ^ r.length) = bitI x k * (2 ^ r.length * 2) := by rw [Int.mul_comm 2, Int.mul_assoc]
    omega
theorem colI_range (k : Nat) : ∀ xs : List Int, 0 ≤ colI xs k ∧ colI xs k < 2 ^ xs.length
  | [] => by simp [colI]
  | x :: r => by
    have h := colI_range k r
    have b := bitI_range x k
    rw [colI, List.length_cons, Int.pow_succ]
    omega
theorem take_snoc {α : Type} {xs : List α} {i : Nat} {x : α} (h : xs[i]? = some x) : xs.take (i + 1) = xs.take i ++ [x] := by
  rw [List.take_add_one, h]
  rfl

/-! ### bits -/
theorem testBit_int {x : Int} (h : 0 ≤ x) (k : Nat) : (x.toNat.testBit k) = decide (bitI x k = 1) := by
  obtain ⟨n, rfl⟩ := Int.eq_ofNat_of_zero_le h
  show n.testBit k = _
  rw [Nat.testBit_eq_decide_div_mod_eq]
  unfold bitI
  have e : ((n : Int) / 2 ^ k % 2) = ((n / 2 ^ k % 2 : Nat) : Int) := by
    rw [Int.natCast_emod, Int.natCast_ediv]
    norm_cast
  rw [e]
  by_cases q : n / 2 ^ k % 2 = 1
  · rw [q]
    decide
  · rw [decide_eq_false q, decide_eq_false]
    intro z
    exact q (by exact_mod_cast z)
/-- all places in which two rows of words differ -/
def diffN : List Int → List Int → Nat
  | x :: r, y :: t => (x.toNat ^^^ y.toNat) ||| diffN r t
  | _, _ => 0
theorem diffN_snoc (x y : Int) : ∀ (xs ys : List Int), xs.length = ys.length → diffN (xs ++ [x]) (ys ++ [y]) = diffN xs ys ||| (x.toNat ^^^ y.toNat)
  | [], [], _ => by simp [diffN]
  | a :: r, b :: t, h => by
    rw [List.cons_append, List.cons_append, diffN, diffN, diffN_snoc x y r t (by simpa using h), Nat.or_assoc]
  | [], _ :: _, h => by cases h
  | _ :: _, [], h => by cases h
theorem diffN_bit (k : Nat) : ∀ (xs ys : List Int), xs.length = ys.length → (∀ x ∈ xs, 0 ≤ x) → (∀ y ∈ ys, 0 ≤ y) → ((diffN xs ys).testBit k = false ↔ colI xs k = colI ys k)
  | [], [], _, _, _ => by simp [diffN, colI]
  | x :: r, y :: t, h, hx, hy => by
    have ih := diffN_bit k r t (by simpa using h) (fun z hz => hx z (List.mem_cons_of_mem _ hz)) fun z hz => hy z (List.mem_cons_of_mem _ hz)
    have bx := bitI_range x k
    have by' := bitI_range y k
    rw [diffN, colI, colI, Nat.testBit_or, Nat.testBit_xor, testBit_int (hx x List.mem_cons_self), testBit_int (hy y List.mem_cons_self), Bool.or_eq_false_iff, ih]
    constructor
    · rintro ⟨h1, h2⟩
      have : bitI x k = bitI y k := by
        by_cases q : bitI x k = 1 <;> by_cases q2 : bitI y k = 1 <;> simp [q, q2] at h1 <;> omega
      omega
    · intro e
      have : bitI x k = bitI y k ∧ colI r k = colI t k := by omega
      refine ⟨?_, this.2⟩
      rw [this.1]
      simp
  | [], _ :: _, h, _, _ => by cases h
  | _ :: _, [], h, _, _ => by cases h
/-- the least level with a bit -/
theorem low_bit : ∀ (t X : Nat), (∀ j, j < t → X.testBit j = false) → X.testBit t = true → X - (X &&& (X - 1)) = 2 ^ t
  | 0, X, _, h => by
    have h1 : X % 2 = 1 := by simpa using h
    obtain ⟨m, rfl⟩ : ∃ m, X = 2 * m + 1 := ⟨X / 2, by omega⟩
    have e : (2 * m + 1) &&& (2 * m + 1 - 1) = 2 * m := by
      apply Nat.eq_of_testBit_eq
      intro i
      cases i with
      | zero => simp
      | succ i =>
        rw [Nat.testBit_and, Nat.testBit_succ, Nat.testBit_succ, Nat.testBit_succ]
        have e1 : (2 * m + 1) / 2 = m := by omega
        have e2 : (2 * m + 1 - 1) / 2 = m := by omega
        have e3 : 2 * m / 2 = m := by omega
        rw [e1, e2, e3, Bool.and_self]
    rw [e]
    omega
  | t + 1, X, h0, h => by
    have h1 : X % 2 = 0 := by
      have := h0 0 (by omega)
      simpa using this
    obtain ⟨Y, rfl⟩ : ∃ Y, X = 2 * Y := ⟨X / 2, by omega⟩
    have hY : Y.testBit t = true := by
      rw [Nat.testBit_succ] at h
      have e3 : 2 * Y / 2 = Y := by omega
      rw [e3] at h
      exact h
    have ih := low_bit t Y (fun j hj => by
      have := h0 (j + 1) (by omega)
      rw [Nat.testBit_succ] at this
      have e3 : 2 * Y / 2 = Y := by omega
      rw [e3] at this
      exact this) hY
    have pos : 0 < Y := by
      rcases Nat.eq_zero_or_pos Y with z | z
      · subst z
        simp at hY
      · exact z
    have e : (2 * Y) &&& (2 * Y - 1) = 2 * (Y &&& (Y - 1)) := by
      apply Nat.eq_of_testBit_eq
      intro i
      cases i with
      | zero => simp
      | succ i =>
        rw [Nat.testBit_and, Nat.testBit_succ, Nat.testBit_succ, Nat.testBit_succ]
        have e1 : 2 * Y / 2 = Y := by omega
        have e2 : (2 * Y - 1) / 2 = Y - 1 := by omega
        have e3 : 2 * (Y &&& (Y - 1)) / 2 = Y &&& (Y - 1) := by omega
        rw [e1, e2, e3, Nat.testBit_and]
    rw [e, Nat.pow_succ]
    have : Y &&& (Y - 1) ≤ Y := Nat.and_le_left
    omega
theorem band_neg {x : Int} (h : 0 < x) : Builtin.bitAnd x (-x) = ((x.toNat - (x.toNat &&& (x.toNat - 1)) : Nat) : Int) := by
  obtain ⟨n, rfl⟩ := Int.eq_ofNat_of_zero_le (Int.le_of_lt h)
  unfold Builtin.bitAnd
  rw [decide_eq_true (Int.le_of_lt h), decide_eq_false (by omega)]
  show (n : Int) - ((n &&& (Builtin.bitNot (-(n : Int))).toNat : Nat) : Int) = _
  have e : (Builtin.bitNot (-(n : Int))).toNat = n - 1 := by
    unfold Builtin.bitNot
    omega
  rw [e]
  have : n &&& (n - 1) ≤ n := Nat.and_le_left
  show _ = ((n - (n &&& (n - 1)) : Nat) : Int)
  omega
/-- one row's comprehension over what is walked, each item by its place -/
theorem dn_lc1 {X : Cx} {rs : Rs} {M : Mem} {ρ : List (Option Ab)} {iter elt : Expr} {scope sc : Scope} {N : List Str} {pos tpos : Pos} {x : Str} (j : Nat) {n0 : Nat} {item0 : Nat → Ab → Prop} {f : Nat → PyData} (hi : DI X rs M ρ (.Name x tpos) iter (fun n item => n = n0 ∧ item = item0)) (nd : X.N.Nodup)
    (hb : blkC N sc scope [(x, j)] = true) (hn : n0 ≤ 100000) (hs : ∀ i a, i < n0 → item0 i a → AllBlk X scope (fun Y => DE Y rs M ((ρ.set j none).set j (some a)) elt (Is (.d (f i)))))
    (hg : AllBlk X scope (fun Y => DG Y (.Name x tpos) [j] (fun a ρ ρ' => ρ' = ρ.set j (some a)))) (hc : X.calm = true := by rfl) (eN : X.N = N := by rfl) (eS : X.env.scope = sc := by rfl) (hf : ∀ x, foldedSetIterable iter X.env x = pure x := by intro _; rfl) :
    DN X rs M ρ (.ListComp elt [⟨.Name x tpos, iter, [], 0⟩] scope pos) (fun as => as = ((List.range n0).map f).map .d) := by
  refine dn_lc (own := [(x, j)]) (fun n item i acc => acc = ((List.range i).map f).map .d) hi hc nd (by rw [eN, eS]; exact blkOk_by hb) hg (fun _ _ _ => rfl) (fun n item i acc a ⟨h1, h2⟩ hlt ha ia => ?_) (fun n item acc ⟨h1, h2⟩ ha => by rw [ha, h1]) (fun i h => h) hf
  subst h1 h2 ha
  refine ⟨by rw [List.length_map, List.length_map, List.length_range]; omega, _, fun b => b = true, rfl, fun s H C cl fp => dts_nil, fun _ => fun s H C cl fp => de_imp (hs i a hlt ia s H C cl fp) fun z hz => ?_, fun h => nomatch h⟩
  rw [hz, List.range_succ, List.map_append, List.map_append]
  rfl
theorem de_lc1 {X : Cx} {rs : Rs} {M : Mem} {ρ : List (Option Ab)} {iter elt : Expr} {scope sc : Scope} {N : List Str} {pos tpos : Pos} {x : Str} (j : Nat) {n0 : Nat} {item0 : Nat → Ab → Prop} {f : Nat → PyData} (hi : DI X rs M ρ (.Name x tpos) iter (fun n item => n = n0 ∧ item = item0)) (nd : X.N.Nodup)
    (hb : blkC N sc scope [(x, j)] = true) (hn : n0 ≤ 100000) (hs : ∀ i a, i < n0 → item0 i a → AllBlk X scope (fun Y => DE Y rs M ((ρ.set j none).set j (some a)) elt (Is (.d (f i)))))
    (hg : AllBlk X scope (fun Y => DG Y (.Name x tpos) [j] (fun a ρ ρ' => ρ' = ρ.set j (some a)))) (hc : X.calm = true := by rfl) (eN : X.N = N := by rfl) (eS : X.env.scope = sc := by rfl) (hf : ∀ x, foldedSetIterable iter X.env x = pure x := by intro _; rfl) :
    DE X rs M ρ (.ListComp elt [⟨.Name x tpos, iter, [], 0⟩] scope pos) (Is (aL ((List.range n0).map f))) :=
  de_of_dn (dn_lc1 j hi nd hb hn hs hg hc eN eS hf) fun as h => ⟨_, h, rfl⟩
theorem range_map_get {α β : Type} (xs : List α) (g : α → β) (f : Nat → β) (h : ∀ i x, xs[i]? = some x → f i = g x) : (List.range xs.length).map f = xs.map g := by
  apply List.ext_getElem?
  intro i
  rw [List.getElem?_map, List.getElem?_map]
  by_cases hi : i < xs.length
  · rw [List.getElem?_range hi, List.getElem?_eq_getElem hi]
    show some (f i) = some (g xs[i])
    rw [h i _ (List.getElem?_eq_getElem hi)]
  · rw [List.getElem?_eq_none (by simpa using hi), List.getElem?_eq_none (by simpa using hi)]
    rfl
theorem atD_get {ds : List PyData} {i : Nat} {a : Ab} (h : AtD ds i a) : ∃ d, ds[i]? = some d ∧ a = .d d := by
  have h : (ds.map Ab.d)[i]? = some a := h
  rw [List.getElem?_map] at h
  match q : ds[i]?, h with
  | some d, h => exact ⟨d, rfl, (Option.some.inj h).symm⟩
theorem atD_ints {ws : List Int} {i : Nat} {a : Ab} (h : AtD (ws.map .int) i a) : ∃ x, ws[i]? = some x ∧ a = aI x := by
  obtain ⟨d, hd, rfl⟩ := atD_get h
  rw [List.getElem?_map] at hd
  match q : ws[i]?, hd with
  | some x, hd => exact ⟨x, rfl, by rw [← Option.some.inj hd]⟩
theorem atE_ints {ws : List Int} {i : Nat} {a : Ab} (h : AtE (ws.map .int) i a) : ∃ x, ws[i]? = some x ∧ a = aT [.int i, .int x] := by
  obtain ⟨d, hd, rfl⟩ := h
  rw [List.getElem?_map] at hd
  match q : ws[i]?, hd with
  | some x, hd => exact ⟨x, rfl, by rw [← Option.some.inj hd]⟩
theorem atZ_ints {ws us : List Int} {i : Nat} {a : Ab} (h : AtZ (ws.map .int) (us.map .int) i a) : ∃ x y, ws[i]? = some x ∧ us[i]? = some y ∧ a = aT [.int x, .int y] := by
  obtain ⟨d, e, hd, he, rfl⟩ := h
  rw [List.getElem?_map] at hd he
  match q : ws[i]?, hd with
  | some x, hd =>
    match q2 : us[i]?, he with
    | some y, he => exact ⟨x, y, rfl, rfl, by rw [← Option.some.inj hd, ← Option.some.inj he]⟩
theorem getD_of {α : Type} {xs : List α} {i : Nat} {x d : α} (h : xs[i]? = some x) : xs.getD i d = x := by
  rw [List.getD_eq_getElem?_getD, h]
  rfl
/-- items of which a word is told -/
theorem dn_lcP {X : Cx} {rs : Rs} {M : Mem} {ρ : List (Option Ab)} {iter elt : Expr} {scope sc : Scope} {N : List Str} {pos tpos : Pos} {x : Str} (j : Nat) {n0 : Nat} {item0 : Nat → Ab → Prop} {W : PyData → Prop} (hi : DI X rs M ρ (.Name x tpos) iter (fun n item => n = n0 ∧ item = item0)) (nd : X.N.Nodup)
    (hb : blkC N sc scope [(x, j)] = true) (hn : n0 ≤ 100000) (hs : ∀ i a, i < n0 → item0 i a → AllBlk X scope (fun Y => DE Y rs M ((ρ.set j none).set j (some a)) elt (fun z => ∃ d, z = .d d ∧ W d)))
    (hg : AllBlk X scope (fun Y => DG Y (.Name x tpos) [j] (fun a ρ ρ' => ρ' = ρ.set j (some a)))) (hc : X.calm = true := by rfl) (eN : X.N = N := by rfl) (eS : X.env.scope = sc := by rfl) (hf : ∀ x, foldedSetIterable iter X.env x = pure x := by intro _; rfl) :
    DN X rs M ρ (.ListComp elt [⟨.Name x tpos, iter, [], 0⟩] scope pos) (fun as => ∃ ds : List PyData, as = ds.map .d ∧ ds.length = n0 ∧ ∀ d ∈ ds, W d) := by
  refine dn_lc (own := [(x, j)]) (fun n item i acc => ∃ ds : List PyData, acc = ds.map .d ∧ ds.length = i ∧ ∀ d ∈ ds, W d) hi hc nd (by rw [eN, eS]; exact blkOk_by hb) hg (fun _ _ _ => ⟨[], rfl, rfl, fun _ h => absurd h List.not_mem_nil⟩) (fun n item i acc a ⟨h1, h2⟩ hlt ha ia => ?_) (fun n item acc ⟨h1, h2⟩ ha => by rw [← h1]; exact ha) (fun i h => h) hf
  subst h1 h2
  obtain ⟨ds, rfl, hl, hw⟩ := ha
  refine ⟨by rw [List.length_map]; omega, _, fun b => b = true, rfl, fun s H C cl fp => dts_nil, fun _ => fun s H C cl fp => de_imp (hs i a hlt ia s H C cl fp) fun z ⟨d, hz, hd⟩ => ?_, fun h => nomatch h⟩
  subst hz
  refine ⟨ds ++ [d], by rw [List.map_append]; rfl, by rw [List.length_append, hl]; rfl, fun y hy => ?_⟩
  rcases List.mem_append.mp hy with h | h
  · exact hw y h
  · exact (List.mem_singleton.mp h) ▸ hd
theorem de_lcP {X : Cx} {rs : Rs} {M : Mem} {ρ : List (Option Ab)} {iter elt : Expr} {scope sc : Scope} {N : List Str} {pos tpos : Pos} {x : Str} (j : Nat) {n0 : Nat} {item0 : Nat → Ab → Prop} {W : PyData → Prop} (hi : DI X rs M ρ (.Name x tpos) iter (fun n item => n = n0 ∧ item = item0)) (nd : X.N.Nodup)
    (hb : blkC N sc scope [(x, j)] = true) (hn : n0 ≤ 100000) (hs : ∀ i a, i < n0 → item0 i a → AllBlk X scope (fun Y => DE Y rs M ((ρ.set j none).set j (some a)) elt (fun z => ∃ d, z = .d d ∧ W d)))
    (hg : AllBlk X scope (fun Y => DG Y (.Name x tpos) [j] (fun a ρ ρ' => ρ' = ρ.set j (some a)))) (hc : X.calm = true := by rfl) (eN : X.N = N := by rfl) (eS : X.env.scope = sc := by rfl) (hf : ∀ x, foldedSetIterable iter X.env x = pure x := by intro _; rfl) :
    DE X rs M ρ (.ListComp elt [⟨.Name x tpos, iter, [], 0⟩] scope pos) (fun a => ∃ ds, a = aL ds ∧ ds.length = n0 ∧ ∀ d ∈ ds, W d) :=
  de_of_dn (dn_lcP j hi nd hb hn hs hg hc eN eS hf) fun as ⟨ds, h, r⟩ => ⟨ds, h, ds, rfl, r⟩
/-- a state's words -/
def IsState (n w : Nat) : Ab → Prop := fun a => ∃ ws : List Int, a = aT (ws.map .int) ∧ ws.length = n ∧ ∀ x ∈ ws, 0 ≤ x ∧ x < 2 ^ w
theorem ints_of {W : Int → Prop} : ∀ {ds : List PyData}, (∀ d ∈ ds, ∃ i, d = .int i ∧ W i) → ∃ ws : List Int, ds = ws.map .int ∧ ∀ x ∈ ws, W x
  | [], _ => ⟨[], rfl, fun _ h => absurd h List.not_mem_nil⟩
  | d :: ds, h => by
    obtain ⟨i, rfl, hi⟩ := h d List.mem_cons_self
    obtain ⟨ws, rfl, hw⟩ := ints_of fun x hx => h x (List.mem_cons_of_mem _ hx)
    refine ⟨i :: ws, rfl, fun x hx => ?_⟩
    rcases List.mem_cons.mp hx with z | z
    · exact z ▸ hi
    · exact hw x z
theorem cutA_length {α : Type} (xs : List α) (lo hi : Option Int) : (cutA xs lo hi).length ≤ xs.length := by
  unfold cutA
  rw [List.length_take, List.length_drop]
  omega
theorem repAll_one {K : PySem.W.Frag} {G : Hp} {vs : List V} {a : Ab} (h : RepAll K G vs [a]) : ∃ v, vs = [v] ∧ Rep K G v a := by
  match vs, h with
  | [v], h => exact ⟨v, rfl, h.1⟩
/-! ### a def that makes a deck, and its call -/
section
variable {P : Program} {w : World} {K : PySem.W.Frag} {mg : Str → Option Value} {base : Heap} {k : Nat} {f : Addr} {fd : FuncData} {ps N : List Str} {x qual : Str} {st : Stmt}
theorem fn_deck (F : Fun K x qual st f fd) (Sc : FnScope N ps (defScope st)) (one : ps.length = 1)
    (body : ∀ (cdv : Value) (A : Around) (outer : List Env) (s : Shared) (H0 : Hp) (E : XK), Room k (A.deeper (envOfC qual (defScope st) s.heap.objs.size f cdv)) → A.guards = some [] → ∀ ns : List Int, ns.length ≤ 63 →
      DSs (bodyCx P w K mg base N qual st f cdv A outer s H0 E) rs0.F ⟨rs0, [], startA N [aScr K ns]⟩ (defBody st) ⟨fun _ => False, fun rs2 M2 a => rs2 = rs0 ∧ ∃ D C cells m c, M2 = deckM D C cells m c ∧ a = .at D ∧ cells.length ≤ 63, fun _ => False, fun _ => False⟩) :
    FnG P w K mg base CX0 (k + 1) f fd ps (SpecDeck K) := by
  refine fun_okG F Sc (fun vs H Q E ⟨ns, G, v, h, _⟩ => by rw [h, one]; rfl) fun cdv A outer s H vs Q E room gd ⟨ns, G, v, hv, rep, hl, ok, kk⟩ => ?_
  subst hv
  refine ⟨_, (body cdv A outer s H E room gd ns hl G ⟨H, rfl⟩).nox, G, ⟨Loc.starts (show RepAll K G [v] [_] from ⟨rep, trivial⟩), ok, Lie.refl _ _ _, fun e he => absurd he List.not_mem_nil, fun b h => h.elim⟩, fun _ _ _ _ q => q.elim, fun rs2 M2 u a G' H' q rep2 ok2 l2 own => ?_, fun _ _ _ _ q => q.elim, fun _ _ _ _ q => q.elim⟩
  obtain ⟨rfl, D, C, cells, m, c, rfl, rfl, hc⟩ := q
  have rep2 : u = .ref D := rep2
  subst rep2
  have m1 : (⟨D, true, .lst [.at C, aI m, aI c]⟩ : Me) ∈ deckM D C cells m c := List.mem_cons_self
  have m2 : (⟨C, true, .lst ((cells.map .int).map .d)⟩ : Me) ∈ deckM D C cells m c := List.mem_cons_of_mem _ List.mem_cons_self
  exact kk D C G' H' ⟨l2.g, ok2.gh, l2.h, l2.nw, trivial⟩ (deck_close ok2 hc) (ok2.m _ m1).1 (ok2.m _ m2).1 ((own _ m1 rfl).elim id fun z => z.elim) ((own _ m2 rfl).elim id fun z => z.elim)
theorem ds_deck {X : Cx} {Ff : Addr → Prop} {D' : AE} {ρ : List (Option Ab)} {e : Expr} {y z : Str} {p pos' pos cpos : Pos} {ns : List Int} (i : Nat) (F : FnG X.prog X.w X.K X.mg X.base CX0 k f fd ps (SpecDeck X.K)) (hr : Room k X.A) (gd : X.A.guards = some []) (hm : X.mg z = some (.ref f)) (hk : PySem.W.keepIn X.K (.ref f) = true)
    (hb : Binds X.K fd ps []) (he : DE X rs0 [] ρ e (Is (aScr X.K ns))) (hl : ns.length ≤ 63) (kk : ∀ D C, D'.nx ⟨deckRs D C, [], ρ.set i (some (.at D))⟩) (hN : X.N.Nodup) (hg : Gl X z := by rfl) (hi : X.N[i]? = some y := by rfl) (hx : L2.Loc X.env.scope y := by first | exact Or.inl rfl | exact Or.inr rfl)
    (hs : swapsWith (.Call (.Name z p) [e] [] cpos) (some (.Name y pos')) pos.line X.env = pure false := by rfl) (hf : X.fn y = true ∨ X.env.scope.names.lookup y = some .local := by first | exact .inl rfl | exact .inr rfl)
    (hdb : (z == ("__debug__" : Str)) = false := by decide) (hst : starEach [e] X.env = (false, eval e X.env) :: starEach [] X.env := by rfl) (hpl : (backTo cpos (starEach [] X.env)).any (·.1) = false := by rfl) :
    DS X Ff ⟨rs0, [], ρ⟩ (.Assign [.Name y pos'] (.Call (.Name z p) [e] [] cpos) pos) D' := by
  intro G0 H0
  have ha : DA X rs0 [] ρ [e] (fun as => as = [aScr X.K ns]) := da_cons he da_nil hst
  refine ps_weak (ps_set hN hi hx (pe_callG (E := E0) F hr gd hg hm hk hb .nil pass0 ha hdb hst hpl) hs hf) fun De σ H h => ?_
  obtain ⟨G, s, n, _⟩ := h
  show tDA X.K rs0 [] ρ (fun as => as = [aScr X.K ns]) σ H (fun vs H1 => SpecDeck X.K (vs ++ []) H1 (fun v H2 => De.nx (σ.set i (some v)) H2) E0)
  refine ⟨G, s.loc, s.ok, fun vs as G1 H1 ra rep n1 => ?_⟩
  subst ra
  obtain ⟨v, e1, r⟩ := repAll_one rep
  subst e1
  · have s1 := s.nxt n1
    refine ⟨ns, G1, v, rfl, r, hl, s1.ok, fun D C G' H' n2 id_ g1 g2 h1 h2 => ?_⟩
    have s2 := s1.nxt n2
    have back : ∀ b, H1 b = none → H0.1 b = none := fun b hb => by
      cases q : H0.1 b with
      | none => rfl
      | some u =>
        obtain ⟨o', e'⟩ := s1.lie.al b u q
        rw [hb] at e'
        cases e'
    refine n _ _ G' H' (kk D C) ⟨s2.loc.set (a := .at D) rfl i, ⟨s2.ok.gh, fun b f => ?_, id_, fun e he => absurd he List.not_mem_nil, fun _ _ _ _ z => by simp at z⟩, s2.lie, fun e he => absurd he List.not_mem_nil, fun b f => ?_⟩
    · rcases f with rfl | rfl
      · exact g1
      · exact g2
    · rcases f with rfl | rfl
      · exact .inl (back _ h1)
      · exact .inl (back _ h2)
end
end HW
namespace HW
open PySem PySem.Spec PyProof.Rows L2 RZ

/-! ### keywords, all in the order from the last to the first -/
def gR {α : Type} : List α → List α → List α
  | [], ws => ws.reverse
  | _ :: _, _ => []
theorem vals_append : ∀ {vs zs : List V} {us ws : List Value}, Vals vs us → Vals zs ws → Vals (vs ++ zs) (us ++ ws)
  | _, _, _, _, .nil, b => b
  | _, _, _, _, .cons h r, b => .cons h (vals_append r b)
theorem vals_reverse : ∀ {vs : List V} {us : List Value}, Vals vs us → Vals vs.reverse us.reverse
  | _, _, .nil => .nil
  | _, _, .cons h r => by
    rw [List.reverse_cons, List.reverse_cons]
    exact vals_append (vals_reverse r) (.cons h .nil)
theorem kb_rev {K : PySem.W.Frag} {x qual : Str} {st : Stmt} {f : Addr} {fd : FuncData} {ps ks : List Str} (F : Fun K x qual st f fd) (hp : ps ≠ [])
    (h : ∀ (kV doc pm : Value) (an : Option Addr) (cdv ct : Value) (ws : List Value), ws.length = ps.length → bindArgs (PySem.W.fnOf x qual (defArgs st) (defBody st) (defScope st) .none kV doc pm an cdv ct) ⟨[], ks.zip ws⟩ = pure (ps.zip ws.reverse)) :
    KBinds K fd ps ks gR gR := by
  obtain ⟨oc, od, kV, doc, pm, an, cdv, ct, osl, rfl, lk, hcd⟩ := F.ex
  refine ⟨fun s us ws _ hl => ?_, fun a b => ?_⟩
  · match us, hl with
    | [], hl =>
      refine .of_eq (h kV doc pm an cdv ct ws ?_)
      have : ws.reverse.length = ps.length := hl
      rwa [List.length_reverse] at this
    | _ :: _, hl =>
      have : 0 = ps.length := hl
      exact absurd (List.length_eq_zero_iff.mp this.symm) hp
  · cases a with
    | nil => exact vals_reverse b
    | cons _ _ => exact .nil
theorem rep_gR {K : PySem.W.Frag} {as : List Ab} (G : Hp) (vs : List V) (h : RepAll K G vs as) : RepAll K G (gR [] vs) as.reverse := RepAll.reverse h

/-! ### words, their columns -/
theorem bitI_mod (x : Int) (k : Nat) : x % 2 ^ (k + 1) = x % 2 ^ k + bitI x k * 2 ^ k := by
  have p := two_pow_pos k
  have e1 := Int.emod_add_mul_ediv x (2 ^ (k + 1))
  have e2 := Int.emod_add_mul_ediv x (2 ^ k)
  have e3 := Int.emod_add_mul_ediv (x / 2 ^ k) 2
  have e4 : x / 2 ^ k / 2 = x / 2 ^ (k + 1) := by rw [Int.pow_succ, Int.ediv_ediv_of_nonneg (Int.le_of_lt p)]
  unfold bitI
  rw [e4] at e3
  rw [Int.pow_succ] at e1 e3 ⊢
  generalize x / (2 ^ k * 2) = q at *
  generalize x / 2 ^ k = r at *
  generalize (2 : Int) ^ k = z at *
  have e5 : r % 2 = r - 2 * q := by omega
  rw [e5, Int.sub_mul]
  have e6 : z * 2 * q = 2 * q * z := by rw [Int.mul_comm z 2, Int.mul_assoc, Int.mul_comm z q, ← Int.mul_assoc]
  have e7 : z * r = r * z := Int.mul_comm z r
  omega
theorem split_word (x : Int) (k : Nat) : x % 2 ^ k + x / 2 ^ k * 2 ^ k = x := by
  have := Int.emod_add_mul_ediv x (2 ^ k)
  rw [Int.mul_comm (2 ^ k)] at this
  exact this
theorem bitI_high {x : Int} {w k : Nat} (h0 : 0 ≤ x) (h : x < 2 ^ w) (hk : w ≤ k) : bitI x k = 0 := by
  have e : (2 : Int) ^ k = 2 ^ (k - w) * 2 ^ w := by rw [← Int.pow_add]; congr 1; omega
  have p := two_pow_pos (k - w)
  have p2 := two_pow_pos w
  have : x / 2 ^ k = 0 := Int.ediv_eq_zero_of_lt h0 (by
    have : 1 * 2 ^ w ≤ (2 : Int) ^ (k - w) * 2 ^ w := Int.mul_le_mul_of_nonneg_right (by omega) (Int.le_of_lt p2)
    omega)
  unfold bitI
  rw [this]
  rfl
theorem colI_high {w k : Nat} (hk : w ≤ k) : ∀ {ws : List Int}, (∀ x ∈ ws, 0 ≤ x ∧ x < 2 ^ w) → colI ws k = 0
  | [], _ => rfl
  | x :: r, h => by
    rw [colI, colI_high hk fun y hy => h y (List.mem_cons_of_mem _ hy), bitI_high (h x List.mem_cons_self).1 (h x List.mem_cons_self).2 hk]
    rfl
theorem colI_noughts (k : Nat) : ∀ n : Nat, colI (List.replicate n 0) k = 0
  | 0 => rfl
  | n + 1 => by
    rw [List.replicate_succ, colI, colI_noughts k n]
    simp [bitI]
theorem bitI_col (k : Nat) : ∀ (ws : List Int) (i : Nat) (x : Int), ws[i]? = some x → bitI (colI ws k) i = bitI x k
  | [], _, _, h => by simp at h
  | y :: r, 0, x, h => by
    have h : some y = some x := h
    cases h
    have b := bitI_range y k
    show (bitI y k + 2 * colI r k) / 2 ^ 0 % 2 = bitI y k
    rw [Int.pow_zero, Int.ediv_one]
    omega
  | y :: r, i + 1, x, h => by
    have h : r[i]? = some x := h
    have b := bitI_range y k
    rw [← bitI_col k r i x h]
    show (bitI y k + 2 * colI r k) / 2 ^ (i + 1) % 2 = colI r k / 2 ^ i % 2
    have e : (2 : Int) ^ (i + 1) = 2 * 2 ^ i := by rw [Int.pow_succ, Int.mul_comm]
    rw [e, ← Int.ediv_ediv_of_nonneg (by decide)]
    congr 2
    omega
def colsI (ws : List Int) (w : Nat) : List Int := (List.range w).map (colI ws)
theorem colsI_len (ws : List Int) (w : Nat) : (colsI ws w).length = w := by
  unfold colsI
  rw [List.length_map, List.length_range]
theorem colsI_get {ws : List Int} {w j : Nat} (h : j < w) : (colsI ws w)[j]? = some (colI ws j) := by
  unfold colsI
  rw [List.getElem?_map, List.getElem?_range h]
  rfl
theorem colsI_mem {ws : List Int} {w : Nat} {x : Int} (h : x ∈ colsI ws w) : 0 ≤ x ∧ x < 2 ^ ws.length := by
  unfold colsI at h
  obtain ⟨k, _, rfl⟩ := List.mem_map.mp h
  exact colI_range k ws
theorem col_colsI {ws : List Int} {i : Nat} {x : Int} (h : ws[i]? = some x) : ∀ w : Nat, colI (colsI ws w) i = x % 2 ^ w
  | 0 => by
    show (0 : Int) = x % 1
    omega
  | w + 1 => by
    have e : colsI ws (w + 1) = colsI ws w ++ [colI ws w] := by
      unfold colsI
      rw [List.range_succ, List.map_append]
      rfl
    rw [e, colI_snoc, col_colsI h w, colsI_len, bitI_col w ws i x h, bitI_mod]
theorem cols_back {ws : List Int} {w : Nat} (h : ∀ x ∈ ws, 0 ≤ x ∧ x < 2 ^ w) : colsI (colsI ws w) ws.length = ws := by
  have e : (List.range ws.length).map (colI (colsI ws w)) = ws.map id := range_map_get ws id _ fun i x hx => by
    have := h x (List.mem_of_getElem? hx)
    rw [col_colsI hx, Int.emod_eq_of_lt this.1 this.2]
    rfl
  rw [List.map_id] at e
  exact e

/-! ### sizes -/
theorem natAbs_lt {x : Int} {k : Nat} (h0 : 0 ≤ x) (h : x < 2 ^ k) : x.natAbs < 2 ^ k := int_lt_of_pow h0 h
theorem sz_word {x : Int} (h0 : 0 ≤ x) (h : x < 2 ^ 100) : Sz 1 20000 (.int x) := (sz_int 100 (natAbs_lt h0 h) (by decide) (by decide)).mono (by decide) (by decide)
theorem sz_words {ws : List Int} (hl : ws.length ≤ 100) (h : ∀ x ∈ ws, 0 ≤ x ∧ x < 2 ^ 100) : Sz 1 20000 (.tuple (ws.map .int)) :=
  (sz_tup (D := 0) (L := 101) fun d hd => by
    obtain ⟨x, hx, rfl⟩ := List.mem_map.mp hd
    exact sz_int 100 (natAbs_lt (h x hx).1 (h x hx).2) (by decide) (by decide)).mono (by decide) (by rw [List.length_map]; omega)
theorem sz_show {ds : List PyData} (hl : ds.length ≤ 100) (h : ∀ d ∈ ds, Sz 1 20000 d) : Sz 50 10000000 (.list ds) := (sz_list h).mono (by decide) (by omega)
theorem pow_le_100 {k : Nat} (h : k ≤ 100) : (2 : Int) ^ k ≤ 2 ^ 100 := by
  have := Nat.pow_le_pow_right (n := 2) (by decide) h
  have e1 : ((2 ^ k : Nat) : Int) = 2 ^ k := by norm_cast
  have e2 : ((2 ^ 100 : Nat) : Int) = 2 ^ 100 := by norm_cast
  omega
/-- what stands in a row to pick of -/
theorem nats_row {m : Nat} : ∀ {as : List Ab}, (∀ a ∈ as, ∃ k : Nat, a = aI k ∧ k ≤ m) → ∃ ds : List PyData, as = ds.map .d ∧ ds.length = as.length ∧ ∀ d ∈ ds, ∃ k : Nat, d = .int k ∧ k ≤ m
  | [], _ => ⟨[], rfl, rfl, fun _ h => absurd h List.not_mem_nil⟩
  | a :: as, h => by
    obtain ⟨k, rfl, hk⟩ := h a List.mem_cons_self
    obtain ⟨ds, e, hl, hd⟩ := nats_row fun b hb => h b (List.mem_cons_of_mem _ hb)
    subst e
    refine ⟨.int k :: ds, rfl, by rw [List.length_cons, List.length_cons, hl], fun d hd' => ?_⟩
    rcases List.mem_cons.mp hd' with rfl | hd'
    · exact ⟨k, rfl, hk⟩
    · exact hd d hd'
def NatRow (m l : Nat) (as : List Ab) : Prop := as.length = l ∧ ∀ a ∈ as, ∃ k : Nat, a = aI k ∧ k ≤ m
section
variable {X : Cx} {rs : Rs} {M : Mem} {ρ : List (Option Ab)} {e : Expr} {es : List Expr} {m l : Nat} {Ra : Ab → Prop}
theorem da_nat0 : DA X rs M ρ [] (NatRow m 0) := by
  refine pa_weak (da_nil (X := X) (rs := rs) (M := M) (ρ := ρ)) fun σ H Q ⟨G, lo, ok, k⟩ => ⟨G, lo, ok, fun vs as G1 H1 h => k vs as G1 H1 ?_⟩
  rw [h]
  exact ⟨rfl, fun _ h => absurd h List.not_mem_nil⟩
theorem da_nat (ha : DE X rs M ρ e Ra) (w : ∀ a, Ra a → ∃ k : Nat, a = aI k ∧ k ≤ m) (hr : DA X rs M ρ es (NatRow m l)) (hs : starEach (e :: es) X.env = (false, eval e X.env) :: starEach es X.env := by rfl) : DA X rs M ρ (e :: es) (NatRow m (l + 1)) :=
  da_consR ha hr (fun y ys h1 h2 => ⟨by rw [List.length_cons, h2.1], fun a h => by
    rcases List.mem_cons.mp h with rfl | h
    · exact w _ h1
    · exact h2.2 a h⟩) hs
/-- a display of small numbers, drawn or not -/
theorem de_natRow {pos : Pos} (hl : l ≤ 1000) (h : DA X rs M ρ es (NatRow m l)) : DE X rs M ρ (.List es pos) (fun a => ∃ ds : List PyData, a = aL ds ∧ ds.length = l ∧ ∀ d ∈ ds, ∃ k : Nat, d = .int k ∧ k ≤ m) :=
  de_of_dn (dn_lst h fun as h => by rw [h.1]; omega) fun as h => by
    obtain ⟨ds, e, h1, h2⟩ := nats_row h.2
    exact ⟨ds, e, ds, rfl, by rw [h1]; exact h.1, h2⟩
end
theorem eqv_ints : ∀ ns : List Int, PyData.eqvAll (ns.map .int) (ns.map .int) = true
  | [] => by simp [PyData.eqvAll]
  | n :: ns => by
    simp only [List.map_cons, PyData.eqvAll, eqv_ints ns]
    simp [PyData.eqv]
theorem eqv_self (ns : List Int) : PyData.eqv (.list (ns.map .int)) (.list (ns.map .int)) = true := by
  simp [PyData.eqv, eqv_ints]
theorem flat_one {α : Type} (a : α) : ∀ k : Nat, (List.replicate k [a]).flatten = List.replicate k a
  | 0 => rfl
  | k + 1 => by rw [List.replicate_succ, List.flatten_cons, flat_one a k, List.replicate_succ]; rfl
/-! ### numbers told by a word only -/
abbrev IntW (W : Int → Prop) : Ab → Prop := fun a => ∃ i, a = aI i ∧ W i
section
variable {X : Cx} {rs : Rs} {M : Mem} {ρ : List (Option Ab)} {a b e : Expr} {W U : Int → Prop} {i j : Int} {p pos : Pos}
theorem de_modW (ha : DE X rs M ρ a (IntW W)) (hb : DE X rs M ρ b (Is (aI j))) (hc : 0 < j) (h : ∀ i, W i → U (i % j)) : DE X rs M ρ (.BinOp a .Mod b pos) (IntW U) :=
  de_op op_mod ha hb fun _ _ ⟨_, e1, w1⟩ e2 => by subst e1 e2; exact ar_int hc ⟨_, rfl, h _ w1⟩
theorem de_shlW (ha : DE X rs M ρ a (Is (aI i))) (hb : DE X rs M ρ b (IntW W)) (hc : ∀ j, W j → CPow i j) (h : ∀ j, W j → U (i * 2 ^ j.toNat)) : DE X rs M ρ (.BinOp a .LShift b pos) (IntW U) :=
  de_op op_shl ha hb fun _ _ e1 ⟨_, e2, w2⟩ => by subst e1 e2; exact ar_int (hc _ w2) ⟨_, rfl, h _ w2⟩
theorem de_mulW2 (ha : DE X rs M ρ a (Is (aI i))) (hb : DE X rs M ρ b (IntW W)) (hc : ∀ j, W j → CMul i j) (h : ∀ j, W j → U (i * j)) : DE X rs M ρ (.BinOp a .Mult b pos) (IntW U) :=
  de_op op_mul ha hb fun _ _ e1 ⟨_, e2, w2⟩ => by subst e1 e2; exact ar_int (hc _ w2) ⟨_, rfl, h _ w2⟩
theorem de_addW (ha : DE X rs M ρ a (Is (aI i))) (hb : DE X rs M ρ b (IntW W)) (h : ∀ j, W j → U (i + j)) : DE X rs M ρ (.BinOp a .Add b pos) (IntW U) :=
  de_op op_add ha hb fun _ _ e1 ⟨_, e2, w2⟩ => by subst e1 e2; exact ar_int0 ⟨_, rfl, h _ w2⟩
theorem de_intOfW (hm : X.mg "int" = none) (ha : DE X rs M ρ e (IntW W)) (hg : Gl X "int" := by rfl) (he : starEach [e] X.env = (false, eval e X.env) :: starEach [] X.env := by rfl) : DE X rs M ρ (.Call (.Name "int" p) [e] [] pos) (IntW W) :=
  de_callTy (T := fun as => ∃ y, as = [y] ∧ IntW W y) call_int1 hg hm (by decide +kernel) (da_consR ha da_nil (fun y ys h1 h2 => ⟨y, by rw [h2], h1⟩) he) (fun as ⟨y, e1, i, e2, w⟩ => fun G H vs Q ok reps k => by
    subst e1 e2
    match vs, reps with
    | [v], ⟨rv, _⟩ =>
      rw [rep_int rv]
      exact .inl ⟨i, rfl, k _ _ G H ⟨i, rfl, w⟩ (Dp.int _) (Nxt.rfl ok)⟩) (hs := he)
end

/-! ### a law -/
def S_lawG (K : PySem.W.Frag) (rs : Rs) (M : Mem) (as : List Ab) (R : Ab → Prop) : Prop := ∃ ns : List Int, rs = rs0 ∧ as = [aScr K ns] ∧ ns.length ≤ 63 ∧ R = Is (aB true)
theorem fn_law {P : Program} {w : World} {K : PySem.W.Frag} {mg : Str → Option Value} {base : Heap} {k : Nat} {x qual : Str} {st : Stmt} {f : Addr} {fd : FuncData} {N : List Str} (F : Fun K x qual st f fd) (Sc : FnScope N ["script"] (defScope st))
    (body : ∀ (cdv : Value) (A : Around) (outer : List Env) (s : Shared) (H0 : Hp) (E : XK), Room k (A.deeper (envOfC qual (defScope st) s.heap.objs.size f cdv)) → A.guards = some [] → ∀ ns : List Int, ns.length ≤ 63 →
      DSs (bodyCx P w K mg base N qual st f cdv A outer s H0 E) rs0.F ⟨rs0, [], startA N [aScr K ns]⟩ (defBody st) ⟨fun _ => False, fun _ _ a => a = aB true, fun _ => False, fun _ => False⟩) :
    FnG P w K mg base CX0 (k + 1) f fd ["script"] (Spec K (S_lawG K)) := by
  refine fn_goF F Sc (fun rs M as R ⟨_, _, h, _⟩ => by rw [h]; rfl) fun cdv A outer s H0 E room gd rs M as R t ro G H vs reps ok => ?_
  obtain ⟨ns, rfl, rfl, hl, rfl⟩ := t
  refine ⟨rs0, [], ok.sub (fun _ z => absurd z List.not_mem_nil) (fun _ _ _ _ z => by simp at z), fun _ z => absurd z List.not_mem_nil, fun _ z => z, ?_⟩
  exact fun G1 H1 => pss_weak (body cdv A outer s H0 E room gd ns hl G1 H1) fun De σ H ⟨G, st, n, r, b, c⟩ => ⟨G, st, fun S' σ' G' H' q => q.elim, fun rs2 M2 v a G' H' q => r rs2 M2 v a G' H' ⟨q, fun _ _ _ => trivial⟩, b, c⟩
theorem law_startG {K : PySem.W.Frag} {H : Hp} {a : Addr} {ns : List Int} {E : XK} (hl : ns.length ≤ 63) (hS : SqL K H a (ns.map V.int)) : Spec K (S_lawG K) [.ref a] H (fun v _ => v = .bl true) E := by
  refine ⟨rs0, [], [aScr K ns], Is (aB true), H, ⟨ns, rfl, rfl, hl, rfl⟩, fun _ z => absurd z List.not_mem_nil, ⟨⟨H, fun _ _ h => h, a, rfl, hS⟩, trivial⟩, ⟨fun _ _ h => h, fun _ h => h.elim, trivial, fun _ z => absurd z List.not_mem_nil, fun _ _ _ _ z => by simp at z⟩, fun z y G' H' r rep n => ?_⟩
  subst r
  cases rep
  rfl
theorem dt_notTrue {X : Cx} {rs : Rs} {M : Mem} {ρ : List (Option Ab)} {e : Expr} {pos : Pos} (h : DE X rs M ρ e (Is (aB true))) (he : ∀ whole, isTrue e X.env whole = (do let v ← whole; standAt e.pos; holding [v] (truthy v)) := by intro _; rfl) : DT X rs M ρ (.UnaryOp .Not e pos) (fun c => c = false) :=
  dt_not (T := fun c => c = true) (dt_val h (fun y h => ⟨true, h, rfl⟩) he) fun c h => by rw [h]; rfl
end HW
/-! Own layer, part H: least and greatest of a list, words not in a tuple, a list turned about; deeds and what they do. -/
namespace HW
open PySem PySem.Spec PyProof.Rows L2 RZ

section
variable {X : Cx} {rs : Rs} {M : Mem} {ρ : List (Option Ab)} {a b e : Expr} {es : List Expr} {pos p p2 : Pos} {R Ra Rb : Ab → Prop} {x y : Ab} {i j : Int}
theorem seqL_ints {K : PySem.W.Frag} {rs : Rs} {M : Mem} (ns : List Int) : SeqL K rs M (aL (ns.map .int)) (ns.map aI) := by
  have h := (seqM_l (K := K) (rs := rs) (M := M) (ns.map .int)).l
  rw [List.map_map] at h
  exact h
theorem de_minL {ns : List Int} {m : Int} (hc : X.calm = true) (hm : X.mg "min" = none) (ha : DE X rs M ρ e (Is (aL (ns.map .int)))) (h1 : m ∈ ns) (h2 : ∀ y ∈ ns, m ≤ y) (hg : Gl X "min" := by rfl) (he : starEach [e] X.env = (false, eval e X.env) :: starEach [] X.env := by rfl) : DE X rs M ρ (.Call (.Name "min" p) [e] [] pos) (Is (aI m)) :=
  de_callB (cr_min hc) hg hm (by decide +kernel) (da_cons ha da_nil he) (fun as e1 => fun G H vs Q ok reps k => by
    subst e1
    obtain ⟨v, rfl, rv⟩ := repAll_one reps
    obtain ⟨q, us, rfl, sq, ra⟩ := seqL_ints ns G H v ok rv
    have eu := repAll_ints ra
    subst eu
    exact ⟨q, ns, rfl, sq, List.length_pos_of_mem h1, fun m' hm' hle => k _ _ G H rfl (by rw [Int.le_antisymm (hle m h1) (h2 m' hm')]; exact Dp.int _) (Nxt.rfl ok)⟩) (hs := he)
theorem de_maxL {ns : List Int} {m : Int} (hc : X.calm = true) (hm : X.mg "max" = none) (ha : DE X rs M ρ e (Is (aL (ns.map .int)))) (h1 : m ∈ ns) (h2 : ∀ y ∈ ns, y ≤ m) (hg : Gl X "max" := by rfl) (he : starEach [e] X.env = (false, eval e X.env) :: starEach [] X.env := by rfl) : DE X rs M ρ (.Call (.Name "max" p) [e] [] pos) (Is (aI m)) :=
  de_callB (cr_max hc) hg hm (by decide +kernel) (da_cons ha da_nil he) (fun as e1 => fun G H vs Q ok reps k => by
    subst e1
    obtain ⟨v, rfl, rv⟩ := repAll_one reps
    obtain ⟨q, us, rfl, sq, ra⟩ := seqL_ints ns G H v ok rv
    have eu := repAll_ints ra
    subst eu
    exact ⟨q, ns, rfl, sq, List.length_pos_of_mem h1, fun m' hm' hle => k _ _ G H rfl (by rw [Int.le_antisymm (h2 m' hm') (hle m h1)]; exact Dp.int _) (Nxt.rfl ok)⟩) (hs := he)
theorem dpAll_strs {K : PySem.W.Frag} {G : Hp} : ∀ {ws : List Str} {vs : List V}, DpAll K G vs (ws.map .str) → vs = ws.map V.str
  | [], _, h => by cases h; rfl
  | _ :: ws, _, h => by
    cases h with
    | cons h1 h2 =>
      cases h1
      rw [dpAll_strs h2]
      rfl
theorem flat_strs : ∀ ws : List Str, (ws.map V.str).all flatV = true
  | [] => rfl
  | w :: ws => by
    rw [List.map_cons, List.all_cons, flat_strs ws]
    rfl
theorem de_notInS {s : Str} {ws : List Str} {c : Bool} (ha : DE X rs M ρ a (Is (aS s))) (hb : DE X rs M ρ b (Is (aT (ws.map .str)))) (h : (!inV (.str s) (ws.map V.str)) = c) (hmk : behindInMarks .NotIn b = false := by rfl) : DE X rs M ρ (.Compare a [.NotIn] [b] pos) (Is (aB c)) :=
  de_cmp op_notIn_seq ha hb (fun _ _ e1 e2 => by
    subst e1 e2
    refine fun G H v u Q ok r1 r2 k => ?_
    have r1 : Dp X.K G v (.str s) := r1
    have r2 : Dp X.K G u (.tuple (ws.map .str)) := r2
    cases r1
    cases r2 with
    | tup st al =>
      rw [dpAll_strs al] at st
      refine ⟨_, _, rfl, .inr (sqT_same ok.gh st), rfl, flat_strs ws, ?_⟩
      rw [if_pos rfl, h]
      exact k _ _ G H rfl (Dp.bl _) (Nxt.rfl ok)) hmk
theorem dn_revL {xs : List Ab} {k : Nat} {p1 p3 : Pos} (ha : DE X rs M ρ e (Is x)) (hs : SeqL X.K rs M x xs) : DN X rs M ρ (.Subscript e (.Slice none none (some (.UnaryOp .USub (.Constant (.int 1) k p1) p2)) p3) pos) (fun as => as = xs.reverse) :=
  pe_weak (pe_revL ha) fun σ H Q ⟨G, l, ok, kk⟩ => tD_go l ok fun v z G1 H1 ry rep1 l1 ok1 n1 => by
    subst ry
    obtain ⟨q, ws, rfl, s, ra⟩ := hs G1 H1 v ok1 rep1
    exact ⟨q, ws, rfl, s, fun p hp => kk p _ _ G1 _ rfl ra.reverse upd_same (ok1.gnone hp) (fresh_of ok n1 hp) (n1.trans (Nxt.newM ok1 hp) ok)⟩
end

/-! ### bits of words -/
theorem bitI_nat (x k : Nat) : bitI (x : Int) k = if x.testBit k then 1 else 0 := by
  have h := testBit_int (x := (x : Int)) (Int.natCast_nonneg x) k
  have b := bitI_range (x : Int) k
  rw [Int.toNat_natCast] at h
  rw [h]
  by_cases e : bitI (x : Int) k = 1
  · rw [e]; rfl
  · rw [decide_eq_false e]
    show _ = 0
    omega
theorem bitI_xor (x y k : Nat) : bitI ((x ^^^ y : Nat) : Int) k = if bitI (x : Int) k = bitI (y : Int) k then 0 else 1 := by
  rw [bitI_nat, bitI_nat, bitI_nat, Nat.testBit_xor]
  cases x.testBit k <;> cases y.testBit k <;> rfl
theorem bitI_and (x y k : Nat) : bitI ((x &&& y : Nat) : Int) k = bitI (x : Int) k * bitI (y : Int) k := by
  rw [bitI_nat, bitI_nat, bitI_nat, Nat.testBit_and]
  cases x.testBit k <;> cases y.testBit k <;> rfl

/-! ### deeds -/
inductive Dd where
  | add (i j : Nat)
  | xor (i j : Nat)
  | and (i j k : Nat)
  | one (i : Nat)
def Dd.word : Dd → Str
  | .add _ _ => "add"
  | .xor _ _ => "xor"
  | .and _ _ _ => "and"
  | .one _ => "one"
def Dd.row : Dd → List PyData
  | .add i j => [.str "add", .int i, .int j]
  | .xor i j => [.str "xor", .int i, .int j]
  | .and i j k => [.str "and", .int i, .int j, .int k]
  | .one i => [.str "one", .int i]
def Dd.pl : Dd → Nat
  | .add i _ => i
  | .xor i _ => i
  | .and i _ _ => i
  | .one i => i
def Dd.Ok (n : Nat) : Dd → Prop
  | .add i j => i < n ∧ j < n ∧ i ≠ j
  | .xor i j => i < n ∧ j < n ∧ i ≠ j
  | .and i j k => i < n ∧ j < n ∧ k < n ∧ i ≠ j ∧ i ≠ k
  | .one i => i < n
def bx (x y : Int) : Int := ((x.toNat ^^^ y.toNat : Nat) : Int)
def ba (x y : Int) : Int := ((x.toNat &&& y.toNat : Nat) : Int)
/-- the word that a deed leaves; s is 1, or -1 for a deed undone -/
def Dd.new (v : Nat) (s : Int) (ws : List Int) : Dd → Int
  | .add i j => (ws.getD i 0 + s * ws.getD j 0) % 2 ^ v
  | .xor i j => bx (ws.getD i 0) (ws.getD j 0)
  | .and i j k => bx (ws.getD i 0) (ba (ws.getD j 0) (ws.getD k 0))
  | .one i => (ws.getD i 0 + s) % 2 ^ v
def Dd.act (v : Nat) (s : Int) (ws : List Int) (d : Dd) : List Int := ws.set d.pl (d.new v s ws)
def InW (v : Nat) (ws : List Int) : Prop := ∀ x ∈ ws, 0 ≤ x ∧ x < 2 ^ v
theorem Dd.pl_lt {n : Nat} {d : Dd} (h : d.Ok n) : d.pl < n := by
  cases d with
  | add i j => exact h.1
  | xor i j => exact h.1
  | and i j k => exact h.1
  | one i => exact h
theorem InW.get {v : Nat} {ws : List Int} (h : InW v ws) (i : Nat) : 0 ≤ ws.getD i 0 ∧ ws.getD i 0 < 2 ^ v := by
  rw [List.getD_eq_getElem?_getD]
  cases e : ws[i]? with
  | none => exact ⟨Int.le_refl _, two_pow_pos v⟩
  | some x => exact h x (List.mem_of_getElem? e)
theorem nat_lt_pow {x : Int} {v : Nat} (h0 : 0 ≤ x) (h : x < 2 ^ v) : x.toNat < 2 ^ v := by
  have e : ((2 ^ v : Nat) : Int) = 2 ^ v := by norm_cast
  omega
theorem bx_range {x y : Int} {v : Nat} (hx : 0 ≤ x ∧ x < 2 ^ v) (hy : 0 ≤ y ∧ y < 2 ^ v) : 0 ≤ bx x y ∧ bx x y < 2 ^ v := by
  refine ⟨Int.natCast_nonneg _, ?_⟩
  have := Nat.xor_lt_two_pow (nat_lt_pow hx.1 hx.2) (nat_lt_pow hy.1 hy.2)
  have e : ((2 ^ v : Nat) : Int) = 2 ^ v := by norm_cast
  unfold bx
  omega
theorem ba_range {x y : Int} {v : Nat} (hx : 0 ≤ x ∧ x < 2 ^ v) (hy : 0 ≤ y ∧ y < 2 ^ v) : 0 ≤ ba x y ∧ ba x y < 2 ^ v := by
  refine ⟨Int.natCast_nonneg _, ?_⟩
  have := Nat.and_lt_two_pow x.toNat (nat_lt_pow hy.1 hy.2)
  have e : ((2 ^ v : Nat) : Int) = 2 ^ v := by norm_cast
  unfold ba
  omega
theorem bx_back {x y : Int} (hx : 0 ≤ x) : bx (bx x y) y = x := by
  unfold bx
  rw [Int.toNat_natCast, Nat.xor_assoc, Nat.xor_self, Nat.xor_zero]
  exact Int.toNat_of_nonneg hx
theorem Dd.new_range {v : Nat} {s : Int} {ws : List Int} (h : InW v ws) (d : Dd) : 0 ≤ d.new v s ws ∧ d.new v s ws < 2 ^ v := by
  have p := two_pow_pos v
  cases d with
  | add i j => exact ⟨Int.emod_nonneg _ (Int.ne_of_gt p), Int.emod_lt_of_pos _ p⟩
  | xor i j => exact bx_range (h.get i) (h.get j)
  | and i j k => exact bx_range (h.get i) (ba_range (h.get j) (h.get k))
  | one i => exact ⟨Int.emod_nonneg _ (Int.ne_of_gt p), Int.emod_lt_of_pos _ p⟩
theorem InW.set {v : Nat} {ws : List Int} (h : InW v ws) {x : Int} (hx : 0 ≤ x ∧ x < 2 ^ v) (i : Nat) : InW v (ws.set i x) := fun y hy => by
  rcases List.mem_or_eq_of_mem_set hy with hy | rfl
  · exact h y hy
  · exact hx
theorem InW.act {v : Nat} {s : Int} {ws : List Int} (h : InW v ws) (d : Dd) : InW v (d.act v s ws) := h.set (Dd.new_range h d) _
theorem act_len {v : Nat} {s : Int} {ws : List Int} (d : Dd) : (d.act v s ws).length = ws.length := List.length_set ..
theorem getD_set_ne {ws : List Int} {i j : Nat} {x : Int} (h : i ≠ j) : (ws.set i x).getD j 0 = ws.getD j 0 := by
  rw [List.getD_eq_getElem?_getD, List.getD_eq_getElem?_getD, List.getElem?_set_ne h]
theorem getD_set_eq {ws : List Int} {i : Nat} {x : Int} (h : i < ws.length) : (ws.set i x).getD i 0 = x := by
  rw [List.getD_eq_getElem?_getD, List.getElem?_set_self h]
  rfl
theorem set_back {ws : List Int} {i : Nat} {x : Int} (h : i < ws.length) : (ws.set i x).set i (ws.getD i 0) = ws := by
  rw [List.set_set]
  apply List.ext_getElem?
  intro j
  by_cases e : i = j
  · subst e
    rw [List.getElem?_set_self h, List.getD_eq_getElem?_getD, List.getElem?_eq_getElem h]
    rfl
  · rw [List.getElem?_set_ne e]
theorem mod_back {x y m : Int} (h0 : 0 ≤ x) (h : x < m) : ((x + y) % m - y) % m = x := by
  rw [Int.sub_eq_add_neg, Int.emod_add_emod, show x + y + -y = x by omega, Int.emod_eq_of_lt h0 h]
theorem act_back {n v : Nat} {s : Int} {ws : List Int} {d : Dd} (hd : d.Ok n) (hn : ws.length = n) (hw : InW v ws) : d.act v (-s) (d.act v s ws) = ws := by
  have key : d.new v (-s) (d.act v s ws) = ws.getD d.pl 0 := by
    cases d with
    | add i j =>
      obtain ⟨h1, h2, h3⟩ := hd
      show ((ws.set i _).getD i 0 + -s * (ws.set i _).getD j 0) % 2 ^ v = ws.getD i 0
      rw [getD_set_eq (by omega), getD_set_ne h3]
      have := mod_back (y := s * ws.getD j 0) (hw.get i).1 (hw.get i).2
      rw [Int.neg_mul]
      exact this
    | xor i j =>
      obtain ⟨h1, h2, h3⟩ := hd
      show bx ((ws.set i _).getD i 0) ((ws.set i _).getD j 0) = ws.getD i 0
      rw [getD_set_eq (by omega), getD_set_ne h3]
      exact bx_back (hw.get i).1
    | and i j k =>
      obtain ⟨h1, h2, h3, h4, h5⟩ := hd
      show bx ((ws.set i _).getD i 0) (ba ((ws.set i _).getD j 0) ((ws.set i _).getD k 0)) = ws.getD i 0
      rw [getD_set_eq (by omega), getD_set_ne h4, getD_set_ne h5]
      exact bx_back (hw.get i).1
    | one i =>
      show ((ws.set i _).getD i 0 + -s) % 2 ^ v = ws.getD i 0
      rw [getD_set_eq (by show i < _; rw [hn]; exact hd)]
      exact mod_back (hw.get i).1 (hw.get i).2
  unfold Dd.act at key ⊢
  rw [key]
  exact set_back (by rw [hn]; exact d.pl_lt hd)
theorem act_twice {v : Nat} {ws : List Int} {d : Dd} (h : d.word = "xor" ∨ d.word = "and") (s t : Int) : d.act v s ws = d.act v t ws := by
  cases d with
  | add i j => exact h.elim (fun z => absurd (show ("add" : Str) = "xor" from z) (by decide)) fun z => absurd (show ("add" : Str) = "and" from z) (by decide)
  | xor i j => rfl
  | and i j k => rfl
  | one i => exact h.elim (fun z => absurd (show ("one" : Str) = "xor" from z) (by decide)) fun z => absurd (show ("one" : Str) = "and" from z) (by decide)

/-! ### slices -/
theorem sIx_nat (n d p : Nat) : HT.sIx n d (some (p : Int)) = min p n := by
  show (if (p : Int) < 0 then ((p : Int) + n).toNat else min (p : Int).toNat n) = _
  rw [if_neg (by omega), Int.toNat_natCast]
theorem cut_to {α : Type} {xs : List α} {p : Nat} (h : p ≤ xs.length) : cutA xs none (some (p : Int)) = xs.take p := by
  unfold cutA
  rw [sIx_nat, Nat.min_eq_left h]
  show (xs.drop 0).take (p - 0) = _
  rw [List.drop_zero, Nat.sub_zero]
theorem cut_from {α : Type} {xs : List α} {p : Nat} (h : p < xs.length) : cutA xs (some ((p : Int) + 1)) none = xs.drop (p + 1) := by
  have e : (p : Int) + 1 = ((p + 1 : Nat) : Int) := by omega
  unfold cutA
  rw [e, sIx_nat, Nat.min_eq_left h]
  show (xs.drop (p + 1)).take (xs.length - (p + 1)) = _
  rw [← List.length_drop, List.take_length]
theorem cut_mid {α : Type} {xs : List α} {p q : Nat} (h : q ≤ xs.length) (hp : p ≤ q) : cutA xs (some (p : Int)) (some (q : Int)) = (xs.drop p).take (q - p) := by
  unfold cutA
  rw [sIx_nat, sIx_nat, Nat.min_eq_left h, Nat.min_eq_left (Nat.le_trans hp h)]

/-! ### a bit of a word, as the laws ask it -/
theorem cdw {z : Int} {i : Nat} (hi : i ≤ 99) : CDivW z (1 * 2 ^ ((i : Int).toNat)) := by
  have pk : (0 : Int) < 1 * 2 ^ ((i : Int).toNat) := by
    rw [Int.one_mul]
    exact two_pow_pos _
  refine ⟨pk, Nat.lt_trans (log2_small (k := 100) (Int.le_of_lt pk) (by decide) ?_) (by decide)⟩
  rw [Int.one_mul]
  show (2 : Int) ^ i < 2 ^ 100
  have := Nat.pow_lt_pow_right (a := 2) (by decide) (show i < 100 by omega)
  have e1 : ((2 ^ i : Nat) : Int) = 2 ^ i := by norm_cast
  have e2 : ((2 ^ 100 : Nat) : Int) = 2 ^ 100 := by norm_cast
  omega
theorem cpw {i : Nat} (hi : i ≤ 99) : CPow 1 (i : Int) := ⟨Int.natCast_nonneg i, by omega, by decide⟩
theorem one_shl (i : Nat) : (1 : Int) * 2 ^ ((i : Int).toNat) = 2 ^ i := Int.one_mul _
theorem de_bitAt {X : Cx} {rs : Rs} {M : Mem} {ρ : List (Option Ab)} {a b : Expr} {z : Int} {i q q2 : Nat} {p p1 p2 p3 p4 p5 p6 : Pos} (hm : X.mg "int" = none) (ha : DE X rs M ρ a (Is (aI z))) (hb : DE X rs M ρ b (Is (aI i))) (hi : i ≤ 99) (hg : Gl X "int" := by rfl)
    (he : starEach [.BinOp a .FloorDiv (.BinOp (.Constant (.int 1) q p1) .LShift b p2) p3] X.env = (false, eval (.BinOp a .FloorDiv (.BinOp (.Constant (.int 1) q p1) .LShift b p2) p3) X.env) :: starEach [] X.env := by rfl) :
    DE X rs M ρ (.BinOp (.Call (.Name "int" p) [.BinOp a .FloorDiv (.BinOp (.Constant (.int 1) q p1) .LShift b p2) p3] [] p4) .Mod (.Constant (.int 2) q2 p5) p6) (Is (aI (bitI z i))) :=
  de_is (de_mod (de_intOf hm (de_div ha (de_shl de_int hb (cpw hi)) (cdw hi)) hg he) de_int (by decide)) (by rw [one_shl]; rfl)
theorem bitI_bx {x y : Int} (hx : 0 ≤ x) (hy : 0 ≤ y) (k : Nat) : bitI (bx x y) k = if bitI x k = bitI y k then 0 else 1 := by
  unfold bx
  rw [bitI_xor, Int.toNat_of_nonneg hx, Int.toNat_of_nonneg hy]
theorem bitI_ba {x y : Int} (hx : 0 ≤ x) (hy : 0 ≤ y) (k : Nat) : bitI (ba x y) k = bitI x k * bitI y k := by
  unfold ba
  rw [bitI_and, Int.toNat_of_nonneg hx, Int.toNat_of_nonneg hy]
/-- a sum, one bit more -/
theorem sum_step {x y c f r : Int} {i : Nat} (h : f + r * 2 ^ i = x % 2 ^ i + y % 2 ^ i + c) : (f + (bitI x i + bitI y i + r) % 2 * 2 ^ i) + (bitI x i + bitI y i + r) / 2 * 2 ^ (i + 1) = x % 2 ^ (i + 1) + y % 2 ^ (i + 1) + c := by
  rw [bitI_mod, bitI_mod, Int.pow_succ]
  have e := Int.emod_add_mul_ediv (bitI x i + bitI y i + r) 2
  generalize (bitI x i + bitI y i + r) % 2 = m at *
  generalize (bitI x i + bitI y i + r) / 2 = q at *
  generalize (2 : Int) ^ i = z at *
  have e2 : m * z + q * (z * 2) = (m + 2 * q) * z := by
    rw [Int.add_mul, Int.mul_comm z 2, ← Int.mul_assoc q 2 z, Int.mul_comm q 2]
  have e3 : (bitI x i + bitI y i + r) * z = bitI x i * z + bitI y i * z + r * z := by rw [Int.add_mul, Int.add_mul]
  rw [← e, ] at e3
  omega
theorem sum_end {x y c f r : Int} {v : Nat} (hx : 0 ≤ x ∧ x < 2 ^ v) (hy : 0 ≤ y ∧ y < 2 ^ v) (h : f + r * 2 ^ v = x % 2 ^ v + y % 2 ^ v + c) (h0 : 0 ≤ f) (h1 : f < 2 ^ v) : f = (x + y + c) % 2 ^ v := by
  rw [Int.emod_eq_of_lt hx.1 hx.2, Int.emod_eq_of_lt hy.1 hy.2] at h
  rw [← h, Int.add_mul_emod_self_right, Int.emod_eq_of_lt h0 h1]
/-! ### places -/
def nI (ps : List Nat) : List Int := ps.map Int.ofNat
theorem map_erase {α β : Type} (f : α → β) : ∀ (xs : List α) (j : Nat), (xs.map f).eraseIdx j = (xs.eraseIdx j).map f
  | [], _ => rfl
  | _ :: _, 0 => rfl
  | x :: xs, j + 1 => by
    show f x :: (xs.map f).eraseIdx j = f x :: (xs.eraseIdx j).map f
    rw [map_erase f xs j]
theorem perm_erase : ∀ {ls : List Nat} {r p : Nat}, ls[r]? = some p → (p :: ls.eraseIdx r).Perm ls
  | [], _, _, h => by simp at h
  | x :: ls, 0, p, h => by
    have h : some x = some p := h
    cases h
    exact List.Perm.refl _
  | x :: ls, r + 1, p, h => by
    have h : ls[r]? = some p := h
    exact (List.Perm.swap x p _).trans ((perm_erase h).cons x)
theorem nI_get {ps : List Nat} {i p : Nat} (h : ps[i]? = some p) : (((nI ps).map PyData.int).map Ab.d)[i]? = some (aI (p : Int)) := by
  unfold nI
  rw [List.map_map, List.map_map, List.getElem?_map, h]
  rfl
theorem nI_len (ps : List Nat) : (((nI ps).map PyData.int).map Ab.d).length = ps.length := by
  unfold nI
  rw [List.length_map, List.length_map, List.length_map]
theorem nI_erase (ps : List Nat) (j : Nat) : (((nI ps).map PyData.int).map Ab.d).eraseIdx j = ((nI (ps.eraseIdx j)).map PyData.int).map Ab.d := by
  unfold nI
  rw [map_erase, map_erase, map_erase]
theorem nI_snoc (ps : List Nat) (p : Nat) : ((nI ps).map PyData.int).map Ab.d ++ [aI (p : Int)] = ((nI (ps ++ [p])).map PyData.int).map Ab.d := by
  unfold nI
  rw [List.map_append, List.map_append, List.map_append]
  rfl
theorem perm_move {ps fs ls : List Nat} {r p : Nat} (h : ls[r]? = some p) (hp : (fs ++ ls).Perm ps) : (fs ++ [p] ++ ls.eraseIdx r).Perm ps := by
  refine List.Perm.trans ?_ hp
  rw [List.append_assoc]
  refine List.Perm.append_left fs ?_
  exact perm_erase h
end HW
/-! Own layer, part I: terms and programs as data, the deeds that they do. -/
namespace HW
open PySem PySem.Spec PyProof.Rows L2 RZ

inductive Trm where
  | act (d : Dd)
  | part (g : Nat)
  | row (ts : List Trm)
  | back (t : Trm)
  | times (t : Trm) (k : Nat)
mutual
def Trm.dat : Trm → PyData
  | .act d => .tuple [.str "do", .tuple d.row]
  | .part g => .tuple [.str "part", .int g]
  | .row ts => .tuple [.str "row", .tuple (Trm.dats ts)]
  | .back t => .tuple [.str "back", t.dat]
  | .times t k => .tuple [.str "times", t.dat, .int k]
def Trm.dats : List Trm → List PyData
  | [] => []
  | t :: ts => t.dat :: Trm.dats ts
end
theorem dats_map : ∀ ts : List Trm, Trm.dats ts = ts.map Trm.dat
  | [] => by simp only [Trm.dats, List.map_nil]
  | t :: ts => by simp only [Trm.dats, List.map_cons, dats_map ts]
/-- a deed, and whether it is undone -/
abbrev Stp := Dd × Bool
def Stp.dat (s : Stp) : PyData := .tuple [.tuple s.1.row, .bool s.2]
def stepsD (f : List Stp) : List PyData := f.map Stp.dat
def turned (f : List Stp) : List Stp := f.reverse.map fun s => (s.1, !s.2)
mutual
def Trm.flat (ps : List (List Stp)) : Trm → List Stp
  | .act d => [(d, false)]
  | .part g => ps.getD g []
  | .row ts => Trm.flats ps ts
  | .back t => turned (t.flat ps)
  | .times t k => (List.replicate k (t.flat ps)).flatten
def Trm.flats (ps : List (List Stp)) : List Trm → List Stp
  | [] => []
  | t :: ts => t.flat ps ++ Trm.flats ps ts
end
theorem flats_map (ps : List (List Stp)) : ∀ ts : List Trm, Trm.flats ps ts = (ts.map (Trm.flat ps)).flatten
  | [] => by simp only [Trm.flats, List.map_nil, List.flatten_nil]
  | t :: ts => by simp only [Trm.flats, List.map_cons, List.flatten_cons, flats_map ps ts]
/-- terms of a program of n at the place g, with deeds of the words ks, at most h deep, with rows and numbers of at most r -/
def Lim (r n g : Nat) (ks : List Str) : Nat → Trm → Prop
  | _, .act d => d.Ok n ∧ d.word ∈ ks
  | _, .part p => p < g
  | 0, _ => False
  | h + 1, .row ts => ts.length ≤ r ∧ ∀ t ∈ ts, Lim r n g ks h t
  | h + 1, .back t => Lim r n g ks h t
  | h + 1, .times t k => k ≤ r ∧ Lim r n g ks h t
theorem Lim.mono {r n g g' : Nat} {ks : List Str} (hg : g ≤ g') : ∀ (h : Nat) (t : Trm), Lim r n g ks h t → Lim r n g' ks h t
  | 0, .act _, q => q
  | _ + 1, .act _, q => q
  | 0, .part _, q => Nat.lt_of_lt_of_le q hg
  | _ + 1, .part _, q => Nat.lt_of_lt_of_le q hg
  | 0, .row _, q => q
  | 0, .back _, q => q
  | 0, .times _ _, q => q
  | h + 1, .row ts, q => ⟨q.1, fun t ht => Lim.mono hg h t (q.2 t ht)⟩
  | h + 1, .back t, q => Lim.mono hg h t q
  | h + 1, .times t k, q => ⟨q.1, Lim.mono hg h t q.2⟩
theorem flat_len_sum {α β : Type} {f : α → List β} {B : Nat} : ∀ (ts : List α), (∀ t ∈ ts, (f t).length ≤ B) → ((ts.map f).flatten).length ≤ ts.length * B
  | [], _ => by simp
  | t :: ts, h => by
    rw [List.map_cons, List.flatten_cons, List.length_append, List.length_cons, Nat.succ_mul]
    have := h t List.mem_cons_self
    have := flat_len_sum ts fun u hu => h u (List.mem_cons_of_mem _ hu)
    omega
theorem flat_rep_len {β : Type} (f : List β) : ∀ k : Nat, (List.replicate k f).flatten.length = k * f.length
  | 0 => by simp
  | k + 1 => by rw [List.replicate_succ, List.flatten_cons, List.length_append, flat_rep_len f k, Nat.succ_mul, Nat.add_comm]
theorem turned_len (f : List Stp) : (turned f).length = f.length := by
  unfold turned
  rw [List.length_map, List.length_reverse]
theorem getD_len {ps : List (List Stp)} {b : Nat} (h : ∀ f ∈ ps, f.length ≤ b) (g : Nat) : (ps.getD g []).length ≤ b := by
  rw [List.getD_eq_getElem?_getD]
  cases e : ps[g]? with
  | none => exact Nat.zero_le _
  | some f => exact h f (List.mem_of_getElem? e)
theorem lim_len {r n g b : Nat} {ks : List Str} {ps : List (List Stp)} (hr : 1 ≤ r) (hb : 1 ≤ b) (hp : ∀ f ∈ ps, f.length ≤ b) : ∀ (h : Nat) (t : Trm), Lim r n g ks h t → (t.flat ps).length ≤ b * r ^ h
  | h, .act _, _ => by
    have := Nat.pow_pos (n := h) hr
    simp only [Trm.flat]
    exact Nat.le_trans (show 1 ≤ b * 1 by omega) (Nat.mul_le_mul_left b this)
  | h, .part p, _ => by
    have := Nat.pow_pos (n := h) hr
    simp only [Trm.flat]
    exact Nat.le_trans (getD_len hp p) (Nat.le_trans (show b ≤ b * 1 by omega) (Nat.mul_le_mul_left b this))
  | 0, .row _, q => q.elim
  | 0, .back _, q => q.elim
  | 0, .times _ _, q => q.elim
  | h + 1, .row ts, q => by
    simp only [Trm.flat]
    rw [flats_map]
    refine Nat.le_trans (flat_len_sum ts fun t ht => lim_len hr hb hp h t (q.2 t ht)) ?_
    rw [Nat.pow_succ, Nat.mul_comm (r ^ h) r, Nat.mul_left_comm]
    exact Nat.mul_le_mul_left b (Nat.mul_le_mul_right _ q.1)
  | h + 1, .back t, q => by
    simp only [Trm.flat]
    rw [turned_len]
    refine Nat.le_trans (lim_len hr hb hp h t q) (Nat.mul_le_mul_left b (Nat.pow_le_pow_right hr (Nat.le_succ h)))
  | h + 1, .times t k, q => by
    simp only [Trm.flat]
    rw [flat_rep_len]
    refine Nat.le_trans (Nat.mul_le_mul q.1 (lim_len hr hb hp h t q.2)) ?_
    rw [Nat.pow_succ, Nat.mul_comm (r ^ h) r, Nat.mul_left_comm]
    exact Nat.le_refl _
/-- the deeds of all terms of a program -/
def pflats (ts : List Trm) : List (List Stp) := ts.foldl (fun ps t => ps ++ [t.flat ps]) []
theorem pflats_snoc (ts : List Trm) (t : Trm) : pflats (ts ++ [t]) = pflats ts ++ [t.flat (pflats ts)] := by
  unfold pflats
  rw [List.foldl_append]
  rfl
def flatsD (ps : List (List Stp)) : List PyData := ps.map fun f => .list (stepsD f)

theorem dat_act (d : Dd) : (Trm.act d).dat = .tuple [.str "do", .tuple d.row] := by simp only [Trm.dat]
theorem dat_part (g : Nat) : (Trm.part g).dat = .tuple [.str "part", .int g] := by simp only [Trm.dat]
theorem dat_row (ts : List Trm) : (Trm.row ts).dat = .tuple [.str "row", .tuple (ts.map Trm.dat)] := by simp only [Trm.dat, dats_map]
theorem dat_back (t : Trm) : (Trm.back t).dat = .tuple [.str "back", t.dat] := by simp only [Trm.dat]
theorem dat_times (t : Trm) (k : Nat) : (Trm.times t k).dat = .tuple [.str "times", t.dat, .int k] := by simp only [Trm.dat]
theorem stepsD_append (f g : List Stp) : stepsD (f ++ g) = stepsD f ++ stepsD g := by
  unfold stepsD
  rw [List.map_append]
theorem stepsD_rep (f : List Stp) (k : Nat) : stepsD (List.replicate k f).flatten = (List.replicate k (stepsD f)).flatten := by
  unfold stepsD
  rw [List.map_flatten, List.map_replicate]
theorem stepsD_len (f : List Stp) : (stepsD f).length = f.length := by
  unfold stepsD
  rw [List.length_map]
theorem strne {s t : Str} {c : Bool} (h : c = decide (s = t)) (n : (s == t) = false) : c = false := by
  rw [h]
  exact decide_eq_false fun e => by rw [e, beq_self_eq_true] at n; cases n
theorem str_no {s t : Str} {c : Bool} {Q : Prop} (n : (s == t) = false) (h : c = decide (s = t)) (e : c = true) : Q := by
  rw [strne h n] at e
  cases e
theorem str_yes {s : Str} {Q : Prop} (h : false = decide (s = s)) : Q := by
  rw [decide_eq_true rfl] at h
  cases h
/-- a display whose items are told by a word -/
def DataRow (W : PyData → Prop) (l : Nat) (as : List Ab) : Prop := as.length = l ∧ ∀ a ∈ as, ∃ d, a = .d d ∧ W d
section
variable {X : Cx} {rs : Rs} {M : Mem} {ρ : List (Option Ab)} {e : Expr} {es : List Expr} {l : Nat} {Ra : Ab → Prop} {W : PyData → Prop}
theorem da_row0 : DA X rs M ρ [] (DataRow W 0) := by
  refine pa_weak (da_nil (X := X) (rs := rs) (M := M) (ρ := ρ)) fun σ H Q ⟨G, lo, ok, k⟩ => ⟨G, lo, ok, fun vs as G1 H1 h => k vs as G1 H1 ?_⟩
  rw [h]
  exact ⟨rfl, fun _ h => absurd h List.not_mem_nil⟩
theorem da_row (ha : DE X rs M ρ e Ra) (w : ∀ a, Ra a → ∃ d, a = .d d ∧ W d) (hr : DA X rs M ρ es (DataRow W l)) (hs : starEach (e :: es) X.env = (false, eval e X.env) :: starEach es X.env := by rfl) : DA X rs M ρ (e :: es) (DataRow W (l + 1)) :=
  da_consR ha hr (fun y ys h1 h2 => ⟨by rw [List.length_cons, h2.1], fun a h => by
    rcases List.mem_cons.mp h with rfl | h
    · exact w _ h1
    · exact h2.2 a h⟩) hs
theorem data_row : ∀ {as : List Ab}, (∀ a ∈ as, ∃ d, a = .d d ∧ W d) → ∃ ds : List PyData, as = ds.map .d ∧ ∀ d ∈ ds, W d
  | [], _ => ⟨[], rfl, fun _ h => absurd h List.not_mem_nil⟩
  | a :: as, h => by
    obtain ⟨d, rfl, hd⟩ := h a List.mem_cons_self
    obtain ⟨ds, e, hds⟩ := data_row fun b hb => h b (List.mem_cons_of_mem _ hb)
    subst e
    refine ⟨d :: ds, rfl, fun x hx => ?_⟩
    rcases List.mem_cons.mp hx with rfl | hx
    · exact hd
    · exact hds x hx
theorem de_row {pos : Pos} (hl : l ≤ 1000) (h : DA X rs M ρ es (DataRow W l)) : DE X rs M ρ (.List es pos) (fun a => ∃ ds : List PyData, a = aL ds ∧ ds.length = l ∧ ∀ d ∈ ds, W d) :=
  de_of_dn (dn_lst h fun as h => by rw [h.1]; omega) fun as h => by
    obtain ⟨ds, e, h2⟩ := data_row h.2
    refine ⟨ds, e, ds, rfl, ?_, h2⟩
    have := h.1
    rw [e, List.length_map] at this
    exact this
end

section
variable {X : Cx} {rs : Rs} {M : Mem} {ρ : List (Option Ab)} {e : Expr} {Ra R : Ab → Prop} {p pos : Pos}
/-- tuple(e), e some list -/
theorem de_tupleOfS (hm : X.mg "tuple" = none) (ha : DE X rs M ρ e Ra) (hs : ∀ x, Ra x → ∃ ds, SeqL X.K rs M x (ds.map .d) ∧ R (aT ds)) (hg : Gl X "tuple" := by rfl) (he : starEach [e] X.env = (false, eval e X.env) :: starEach [] X.env := by rfl) :
    DE X rs M ρ (.Call (.Name "tuple" p) [e] [] pos) R :=
  pe_weak (pe_tupleOf hg hm ha he) fun σ H Q ⟨G, l, ok, k⟩ => ⟨G, l, ok, fun v y G1 H1 ry rep n => by
    obtain ⟨ds, hl, r⟩ := hs y ry
    have ok1 := ok.nxt n
    obtain ⟨q, ws, rfl, s, ra⟩ := hl.get ok1 rep
    refine .inl ⟨q, ws, rfl, s, fun z hz => ?_⟩
    have n4 := Nxt.new (o := .tup ws) ok1 hz
    exact k (.ref z) _ _ _ r (Dp.tup (.inl (.inl upd_same)) (dpAll_same n4.g _ _ (repAll_dp.mp ra))) (n.trans n4 ok)⟩
end
/-- data of terms -/
theorem trms_of {W : Trm → Prop} : ∀ {ds : List PyData}, (∀ d ∈ ds, ∃ t, d = Trm.dat t ∧ W t) → ∃ ts : List Trm, ds = ts.map Trm.dat ∧ ∀ t ∈ ts, W t
  | [], _ => ⟨[], rfl, fun _ h => absurd h List.not_mem_nil⟩
  | d :: ds, h => by
    obtain ⟨t, rfl, ht⟩ := h d List.mem_cons_self
    obtain ⟨ts, rfl, hts⟩ := trms_of fun e he => h e (List.mem_cons_of_mem _ he)
    refine ⟨t :: ts, rfl, fun u hu => ?_⟩
    rcases List.mem_cons.mp hu with rfl | hu
    · exact ht
    · exact hts u hu
def WordsOk (ks : List Str) : Prop := ks ≠ [] ∧ ks.length ≤ 100 ∧ ∀ k ∈ ks, k = "add" ∨ k = "xor" ∨ k = "and" ∨ k = "one"
theorem dt_gtW {X : Cx} {rs : Rs} {M : Mem} {ρ : List (Option Ab)} {a b : Expr} {pos : Pos} {W : Int → Prop} {j : Int} (ha : DE X rs M ρ a (IntW W)) (hb : DE X rs M ρ b (Is (aI j))) : DT X rs M ρ (.Compare a [.Gt] [b] pos) (fun _ => True) := dt_cmp op_gt ha hb (fun _ _ ⟨_, e1, _⟩ e2 => by subst e1 e2; exact ar_cmp0 ⟨_, rfl, trivial⟩) (nomark _)
theorem flatsD_snoc (ps : List (List Stp)) (f : List Stp) : (flatsD (ps ++ [f])).map Ab.d = (flatsD ps).map Ab.d ++ [aL (stepsD f)] := by
  unfold flatsD
  rw [List.map_append, List.map_append]
  rfl
end HW
/-! Own layer, part J: dicts of our own, with keys ints and texts. -/
namespace HW
open PySem PySem.Spec PyProof.Rows L2 RZ

abbrev kA : Key → Ab
  | .inl n => aI n
  | .inr s => aS s
def valA (kvs : List (Key × Ab)) (k : Key) : Option Ab := (kvs.find? fun kv => decide (kv.1 = k)).map (·.2)
def putA (kvs : List (Key × Ab)) (k : Key) (a : Ab) : List (Key × Ab) :=
  if (kvs.any fun kv => decide (kv.1 = k)) = true then kvs.map (fun kv => if kv.1 = k then (kv.1, a) else kv) else kvs ++ [(k, a)]
theorem rep_key {K : PySem.W.Frag} {G : Hp} {u : V} : ∀ {k : Key}, Rep K G u (kA k) → u = kV k
  | .inl n, h => by
    have h : Dp K G u (.int n) := h
    cases h
    rfl
  | .inr s, h => by
    have h : Dp K G u (.str s) := h
    cases h
    rfl
theorem val_get {K : PySem.W.Frag} {G : Hp} {k : Key} {y : Ab} : ∀ {vs : List (Key × V)} {kvs : List (Key × Ab)}, vs.map (·.1) = kvs.map (·.1) → RepAll K G (vs.map (·.2)) (kvs.map (·.2)) → valA kvs k = some y → ∃ v, valV vs k = some v ∧ Rep K G v y
  | [], [], _, _, h => by cases h
  | p :: vs, q :: kvs, e, r, h => by
    rw [List.map_cons, List.map_cons] at e
    obtain ⟨e1, e2⟩ := List.cons.inj e
    rw [List.map_cons, List.map_cons] at r
    obtain ⟨r1, r2⟩ := r
    by_cases z : q.1 = k
    · have hz : valA (q :: kvs) k = some q.2 := by simp [valA, List.find?_cons, z]
      rw [hz] at h
      cases h
      exact ⟨p.2, valV_pos (e1.trans z), r1⟩
    · have hz : valA (q :: kvs) k = valA kvs k := by simp [valA, List.find?_cons, z]
      rw [hz] at h
      obtain ⟨v, h1, h2⟩ := val_get e2 r2 h
      exact ⟨v, by rw [valV_neg (by rw [e1]; exact z)]; exact h1, h2⟩
  | [], _ :: _, e, _, _ => by cases e
  | _ :: _, [], e, _, _ => by cases e
theorem any_key {k : Key} : ∀ {vs : List (Key × V)} {kvs : List (Key × Ab)}, vs.map (·.1) = kvs.map (·.1) → (vs.any fun kv => decide (kv.1 = k)) = (kvs.any fun kv => decide (kv.1 = k))
  | [], [], _ => rfl
  | p :: vs, q :: kvs, e => by
    rw [List.map_cons, List.map_cons] at e
    obtain ⟨e1, e2⟩ := List.cons.inj e
    rw [List.any_cons, List.any_cons, e1, any_key e2]
  | [], _ :: _, e => by cases e
  | _ :: _, [], e => by cases e
theorem set_keys {K : PySem.W.Frag} {G : Hp} {k : Key} {v : V} {a : Ab} (rv : Rep K G v a) : ∀ {vs : List (Key × V)} {kvs : List (Key × Ab)}, vs.map (·.1) = kvs.map (·.1) → RepAll K G (vs.map (·.2)) (kvs.map (·.2)) →
    (vs.map (fun kv => if kv.1 = k then (kv.1, v) else kv)).map (·.1) = (kvs.map (fun kv => if kv.1 = k then (kv.1, a) else kv)).map (·.1) ∧ RepAll K G ((vs.map (fun kv => if kv.1 = k then (kv.1, v) else kv)).map (·.2)) ((kvs.map (fun kv => if kv.1 = k then (kv.1, a) else kv)).map (·.2))
  | [], [], _, _ => ⟨rfl, trivial⟩
  | p :: vs, q :: kvs, e, r => by
    rw [List.map_cons, List.map_cons] at e
    obtain ⟨e1, e2⟩ := List.cons.inj e
    rw [List.map_cons, List.map_cons] at r
    obtain ⟨r1, r2⟩ := r
    obtain ⟨h1, h2⟩ := set_keys rv e2 r2
    by_cases z : q.1 = k
    · have z' : p.1 = k := e1.trans z
      simp only [List.map_cons, if_pos z, if_pos z']
      exact ⟨by rw [h1, e1], rv, h2⟩
    · have z' : ¬ p.1 = k := by rw [e1]; exact z
      simp only [List.map_cons, if_neg z, if_neg z']
      exact ⟨by rw [h1, e1], r1, h2⟩
  | [], _ :: _, e, _ => by cases e
  | _ :: _, [], e, _ => by cases e
theorem put_rep {K : PySem.W.Frag} {G : Hp} {k : Key} {v : V} {a : Ab} (rv : Rep K G v a) {vs : List (Key × V)} {kvs : List (Key × Ab)} (e : vs.map (·.1) = kvs.map (·.1)) (r : RepAll K G (vs.map (·.2)) (kvs.map (·.2))) :
    (putK vs k v).map (·.1) = (putA kvs k a).map (·.1) ∧ RepAll K G ((putK vs k v).map (·.2)) ((putA kvs k a).map (·.2)) := by
  unfold putK putA
  rw [any_key e]
  by_cases z : (kvs.any fun kv => decide (kv.1 = k)) = true
  · rw [if_pos z, if_pos z]
    exact set_keys rv e r
  · rw [if_neg z, if_neg z, List.map_append, List.map_append, List.map_append, List.map_append, e]
    exact ⟨rfl, RepAll.append r ⟨rv, trivial⟩⟩
section
variable {X : Cx} {rs : Rs} {M : Mem} {ρ : List (Option Ab)} {o i e : Expr} {pos p : Pos} {y : Ab} {q : Addr} {b : Bool} {kvs : List (Key × Ab)} {ky : Key}
/-- d[k] of a dict of our own -/
theorem de_dget (hu : X.A.units + 64 < cLine) (ho : DE X rs M ρ o (Is (.at q))) (hi : DE X rs M ρ i (Is (kA ky))) (hM : (⟨q, b, .dct kvs⟩ : Me) ∈ M) (hv : valA kvs ky = some y) (hs : NoSl i := by intro _ _; rfl) : DE X rs M ρ (.Subscript o i pos) (Is y) :=
  pe_weak (pe_dget (by omega) ho hi hs) fun σ H Q ⟨G, l, ok, k⟩ => tD_go l ok fun v z G1 H1 rz rep1 l1 ok1 n1 => ⟨G1, l1, ok1, fun u w G2 H2 rw2 rep2 n2 => by
    subst rz rw2
    have rep1 : v = .ref q := rep1
    subst rep1
    have ok2 := ok1.nxt n2
    obtain ⟨_, _, vs, e1, e2, ra⟩ := ok2.m _ hM
    obtain ⟨v', h1, h2⟩ := val_get e2 ra hv
    exact ⟨q, v', rfl, by rw [← h1, rep_key rep2]; exact DGet.k e1, k v' _ G2 H2 rfl h2 (n1.trans n2 ok)⟩⟩
end
section
variable {X : Cx} {Ff : Addr → Prop} {S : Sta} {D : AE} {o i e : Expr} {pos pos' : Pos} {q : Addr} {kvs : List (Key × Ab)} {ky : Key} {R : Ab → Prop} {k : Nat}
/-- d[k] = e of a dict of our own -/
theorem ds_dput (hu : X.A.units + 64 < cLine) (he : DE X S.rs S.M S.ρ e R) (ho : DE X S.rs S.M S.ρ o (Is (.at q))) (hi : DE X S.rs S.M S.ρ i (Is (kA ky))) (hM : S.M[k]? = some ⟨q, true, .dct kvs⟩) (hl : kvs.length ≤ 100000)
    (kk : ∀ a, R a → D.nx ⟨S.rs, S.M.set k ⟨q, true, .dct (putA kvs ky a)⟩, S.ρ⟩) (hs : swapsWith e (some (.Subscript o i pos')) pos.line X.env = pure false := by rfl) : DS X Ff S (.Assign [.Subscript o i pos'] e pos) D := fun G0 H0 =>
  ps_weak (ps_dput (by omega) ho hi he hs) fun De σ H ⟨G, s, nx, _⟩ => ⟨G, s.loc, s.ok, fun v a G1 H1 ra rep1 n1 => by
    have s1 := s.nxt n1
    refine ⟨G1, s1.loc, s1.ok, fun u z G2 H2 rz rep2 n2 => ?_⟩
    subst rz
    have rep2 : u = .ref q := rep2
    subst rep2
    have s2 := s1.nxt n2
    refine ⟨G2, s2.loc, s2.ok, fun y c G3 H3 rc rep3 n3 => ?_⟩
    subst rc
    have s3 := s2.nxt n3
    obtain ⟨_, _, vs, e1, e2, rr⟩ := s3.ok.m _ (List.mem_of_getElem? hM)
    have hlen : vs.length = kvs.length := by rw [← List.length_map (f := (·.1)), e2, List.length_map]
    obtain ⟨p1, p2⟩ := put_rep (k := ky) (rep1.same (n2.g.trans n3.g)) e2 rr
    refine ⟨q, _, rfl, by rw [rep_key rep3]; exact DPut.k e1 (Nat.lt_of_le_of_lt (by omega) (show 100000 < sizeLine by decide)), nx _ σ G3 _ (kk a ra) (s3.chg (u := .dK (putK vs ky v)) hM ⟨_, upd_same, p1, p2⟩)⟩⟩
end
end HW
/-! Own layer, part K: the second deck of the laws, a dict of a list of great cells and of a number. -/
namespace HW
open PySem PySem.Spec PyProof.Rows L2 RZ

def deckRs2 (D C : Addr) : Rs where
  F := fun b => b = D ∨ b = C
  I := fun H => ∃ (cells : List Int) (m : Int), H D = some (.dK [(.inr "deep", .ref C), (.inr "state", .int m)]) ∧ H C = some (.lst (cells.map V.int)) ∧ cells.length ≤ 63 ∧ 0 ≤ m ∧ m < 4611686018427387904
  has := fun H b ⟨cells, m, h1, h2, _⟩ f => by
    rcases f with f | f
    · exact ⟨_, f ▸ h1⟩
    · exact ⟨_, f ▸ h2⟩
  st := fun H H' ⟨cells, m, h1, h2, h3⟩ k => ⟨cells, m, k D _ (.inl (.inl rfl)) h1, k C _ (.inl (.inr rfl)) h2, h3⟩
def deckD (C : Addr) (m : Int) : List (Key × Ab) := [(.inr "deep", .at C), (.inr "state", aI m)]
def deckM2 (D C : Addr) (cells : List Int) (m : Int) : Mem := [⟨D, true, .dct (deckD C m)⟩, ⟨C, true, .lst ((cells.map .int).map .d)⟩]
theorem deck_open2 {K : PySem.W.Frag} {D C : Addr} {M : Mem} {G H : Hp} (ok : Ok K (deckRs2 D C) M G H) : ∃ cells m, Ok K rs0 (deckM2 D C cells m) G H ∧ cells.length ≤ 63 ∧ 0 ≤ m ∧ m < 4611686018427387904 := by
  obtain ⟨cells, m, h1, h2, h3⟩ := ok.i
  refine ⟨cells, m, ⟨ok.gh, fun _ h => h.elim, trivial, fun e he => ?_, fun j k e f hj hk hp => ?_⟩, h3⟩
  · rcases List.mem_cons.mp he with rfl | he
    · exact ⟨ok.sep D (.inl rfl), fun h => h, _, h1, rfl, rfl, Dp.int m, trivial⟩
    · cases List.mem_singleton.mp he
      exact ⟨ok.sep C (.inr rfl), fun h => h, _, h2, by rw [List.map_map]; exact ints_repAll cells⟩
  · have ne : D ≠ C := by
      rintro rfl
      rw [h1] at h2
      injection h2 with h2
      cases h2
    match j, k, hj, hk with
    | 0, 0, _, _ => rfl
    | 1, 1, _, _ => rfl
    | 0, 1, hj, hk =>
      cases hj
      cases hk
      exact absurd hp ne
    | 1, 0, hj, hk =>
      cases hj
      cases hk
      exact absurd hp.symm ne
    | 0, k + 2, _, hk => cases hk
    | 1, k + 2, _, hk => cases hk
    | j + 2, _, hj, _ => cases hj
theorem deck_close2 {K : PySem.W.Frag} {D C : Addr} {rs : Rs} {cells : List Int} {m : Int} {G H : Hp} (ok : Ok K rs (deckM2 D C cells m) G H) (hl : cells.length ≤ 63) (m0 : 0 ≤ m) (m1 : m < 4611686018427387904) : (deckRs2 D C).I H := by
  obtain ⟨_, _, vs, e1, k1, r1⟩ := ok.m _ List.mem_cons_self
  obtain ⟨_, _, ws, e2, r2⟩ := ok.m _ (List.mem_cons_of_mem _ List.mem_cons_self)
  rw [List.map_map] at r2
  have e3 := repAll_ints r2
  subst e3
  match vs, k1, r1 with
  | [(ka, a), (kb, b)], k1, ⟨q1, q2, _⟩ =>
    have ea : a = .ref C := q1
    have eb : b = .int m := rep_int q2
    have kk : [ka, kb] = [.inr "deep", .inr "state"] := k1
    obtain ⟨kx, ky⟩ := List.cons.inj kk
    obtain ⟨ky, _⟩ := List.cons.inj ky
    subst ea eb kx ky
    exact ⟨cells, m, e1, e2, hl, m0, m1⟩

/-! ### numbers of states, tables as rows of places -/
def numI (v : Nat) (ws : List Int) : Int := ws.foldl (fun f x => f * 2 ^ v + x) 0
theorem numI_snoc (v : Nat) (ws : List Int) (x : Int) : numI v (ws ++ [x]) = numI v ws * 2 ^ v + x := by
  unfold numI
  rw [List.foldl_append]
  rfl
theorem pow_int (k : Nat) : ((2 ^ k : Nat) : Int) = 2 ^ k := by norm_cast
theorem InW.take {v : Nat} {ws : List Int} (h : InW v ws) (i : Nat) : InW v (ws.take i) := fun x hx => h x (List.mem_of_mem_take hx)
theorem numI_take {v : Nat} {ws : List Int} (h : InW v ws) : ∀ i, i ≤ ws.length → 0 ≤ numI v (ws.take i) ∧ numI v (ws.take i) < 2 ^ (i * v)
  | 0, _ => by
    rw [List.take_zero, Nat.zero_mul]
    exact ⟨Int.le_refl _, show (0 : Int) < 2 ^ 0 by decide⟩
  | i + 1, hi => by
    obtain ⟨a, b⟩ := numI_take h i (by omega)
    have e := take_snoc (List.getElem?_eq_getElem (show i < ws.length by omega))
    have hx := h ws[i] (List.getElem_mem _)
    rw [e, numI_snoc]
    have p := two_pow_pos v
    have e2 : (2 : Int) ^ ((i + 1) * v) = 2 ^ (i * v) * 2 ^ v := by rw [Nat.succ_mul, Int.pow_add]
    rw [e2]
    have m0 : 0 ≤ numI v (ws.take i) * 2 ^ v := Int.mul_nonneg a (Int.le_of_lt p)
    have m1 : (numI v (ws.take i) + 1) * 2 ^ v ≤ 2 ^ (i * v) * 2 ^ v := Int.mul_le_mul_of_nonneg_right (by omega) (Int.le_of_lt p)
    rw [Int.add_mul, Int.one_mul] at m1
    omega
/-- a tuple or a list of ints -/
def IsSeq (ws : List Int) (x : Ab) : Prop := x = aT (ws.map .int) ∨ x = aL (ws.map .int)
section
variable {X : Cx} {rs : Rs} {M : Mem} {ρ : List (Option Ab)} {e tg : Expr} {RI : Nat → (Nat → Ab → Prop) → Prop} {x : Ab} {ws : List Int} {p pos : Pos}
theorem di_seq (hx : IsSeq ws x) (he : DE X rs M ρ e (Is x)) (h : RI ws.length (AtD (ws.map .int))) : DI X rs M ρ tg e RI :=
  hx.elim (fun hx => di_tup he fun y hy => ⟨_, hy.trans hx, by rw [List.length_map]; exact h⟩) fun hx => di_list he fun y hy => ⟨_, hy.trans hx, by rw [List.length_map]; exact h⟩
theorem seqs_seq {K : PySem.W.Frag} {rs : Rs} {M : Mem} (hx : IsSeq ws x) : Seqs K rs M x ((ws.map .int).map .d) := hx.elim (fun hx => by rw [hx]; exact seqs_t _) fun hx => by rw [hx]; exact seqs_l _
theorem de_sumL {ns : List Int} (hc : X.calm = true) (hm : X.mg "sum" = none) (ha : DE X rs M ρ e (Is (aL (ns.map .int)))) (hg : Gl X "sum" := by rfl) (he : starEach [e] X.env = (false, eval e X.env) :: starEach [] X.env := by rfl) : DE X rs M ρ (.Call (.Name "sum" p) [e] [] pos) (Is (aI ns.sum)) :=
  de_callB (cr_sum hc) hg hm (by decide +kernel) (da_cons ha da_nil he) (fun as e1 => fun G H vs Q ok reps k => by
    subst e1
    obtain ⟨v, rfl, rv⟩ := repAll_one reps
    obtain ⟨q, us, rfl, sq, ra⟩ := seqL_ints ns G H v ok rv
    have eu := repAll_ints ra
    subst eu
    exact ⟨q, ns, rfl, sq, k _ _ G H rfl (Dp.int _) (Nxt.rfl ok)⟩) (hs := he)
end
theorem col_sum (k : Nat) : ∀ (ws : List Int) (j : Nat), ((List.range ws.length).map fun i => bitI (ws.getD i 0) k * 2 ^ (i + j)).sum = colI ws k * 2 ^ j
  | [], j => by simp [colI]
  | x :: r, j => by
    rw [List.length_cons, List.range_succ_eq_map, List.map_cons, List.map_map, List.sum_cons]
    have ih := col_sum k r (j + 1)
    have e : (List.range r.length).map ((fun i => bitI ((x :: r).getD i 0) k * 2 ^ (i + j)) ∘ Nat.succ) = (List.range r.length).map fun i => bitI (r.getD i 0) k * 2 ^ (i + (j + 1)) := by
      apply List.map_congr_left
      intro i _
      show bitI ((x :: r).getD (i + 1) 0) k * 2 ^ (i + 1 + j) = _
      rw [show i + 1 + j = i + (j + 1) by omega]
      rfl
    rw [e, ih, colI, Int.add_mul, Int.pow_succ, Nat.zero_add]
    have e2 : colI r k * (2 ^ j * 2) = 2 * colI r k * 2 ^ j := by rw [Int.mul_comm (2 ^ j) 2, ← Int.mul_assoc, Int.mul_comm (colI r k) 2]
    rw [e2]
    rfl

def backL (ps : List Nat) : Nat → List Nat
  | 0 => List.replicate ps.length 0
  | i + 1 => (backL ps i).set (ps.getD i 0) i
theorem backL_len (ps : List Nat) : ∀ i, (backL ps i).length = ps.length
  | 0 => List.length_replicate
  | i + 1 => by
    show ((backL ps i).set _ _).length = _
    rw [List.length_set, backL_len ps i]
theorem nI_set (ps : List Nat) (j p : Nat) : (((nI ps).map PyData.int).map Ab.d).set j (aI (p : Int)) = ((nI (ps.set j p)).map PyData.int).map Ab.d := by
  unfold nI
  rw [List.map_set, List.map_set, List.map_set]
  rfl
/-- all tuples of n numbers of v bits, in order -/
def allT (v : Nat) : Nat → List (List Int)
  | 0 => [[]]
  | n + 1 => (allT v n).flatMap fun a => (List.range (2 ^ v)).map fun x : Nat => a ++ [(x : Int)]
def tupsD (l : List (List Int)) : List PyData := l.map fun ws => .tuple (ws.map .int)
theorem allT_len (v : Nat) : ∀ n, (allT v n).length = 2 ^ (n * v)
  | 0 => by rw [Nat.zero_mul]; rfl
  | n + 1 => by
    show ((allT v n).flatMap _).length = _
    rw [List.length_flatMap]
    have e : (allT v n).map (fun a => ((List.range (2 ^ v)).map fun x : Nat => a ++ [(x : Int)]).length) = List.replicate (allT v n).length (2 ^ v) := by
      rw [List.eq_replicate_iff]
      refine ⟨List.length_map .., fun b hb => ?_⟩
      obtain ⟨a, _, rfl⟩ := List.mem_map.mp hb
      rw [List.length_map, List.length_range]
    rw [e, List.sum_replicate_nat, allT_len v n, Nat.succ_mul, Nat.pow_add]
theorem allT_mem {v : Nat} : ∀ {n : Nat} {ws : List Int}, ws ∈ allT v n → ws.length = n ∧ InW v ws
  | 0, ws, h => by
    have h : ws ∈ [[]] := h
    rw [List.mem_singleton.mp h]
    exact ⟨rfl, fun _ h => absurd h List.not_mem_nil⟩
  | n + 1, ws, h => by
    have h : ws ∈ (allT v n).flatMap _ := h
    obtain ⟨a, ha, hb⟩ := List.mem_flatMap.mp h
    obtain ⟨x, hx, rfl⟩ := List.mem_map.mp hb
    obtain ⟨h1, h2⟩ := allT_mem ha
    refine ⟨by rw [List.length_append, h1]; rfl, fun y hy => ?_⟩
    rcases List.mem_append.mp hy with hy | hy
    · exact h2 y hy
    · rw [List.mem_singleton.mp hy]
      have := List.mem_range.mp hx
      have e := pow_int v
      exact ⟨Int.natCast_nonneg x, by omega⟩
theorem tupsD_len (l : List (List Int)) : (tupsD l).length = l.length := by
  unfold tupsD
  rw [List.length_map]
theorem tupsD_append (l r : List (List Int)) : tupsD (l ++ r) = tupsD l ++ tupsD r := by
  unfold tupsD
  rw [List.map_append]

/-! ### the number of a state is its place among all of them -/
def numN (v : Nat) (ws : List Int) : Nat := ws.foldl (fun f x => f * 2 ^ v + x.toNat) 0
theorem numN_snoc (v : Nat) (ws : List Int) (x : Int) : numN v (ws ++ [x]) = numN v ws * 2 ^ v + x.toNat := by
  unfold numN
  rw [List.foldl_append]
  rfl
theorem numN_int {v : Nat} {ws : List Int} (h : InW v ws) : ∀ i, i ≤ ws.length → ((numN v (ws.take i) : Nat) : Int) = numI v (ws.take i)
  | 0, _ => by rw [List.take_zero]; rfl
  | i + 1, hi => by
    have e := take_snoc (List.getElem?_eq_getElem (show i < ws.length by omega))
    have hx := h ws[i] (List.getElem_mem _)
    have ih := numN_int h i (by omega)
    have p := HW.pow_int v
    rw [e, numN_snoc, numI_snoc, ← ih, ← p]
    rw [Int.natCast_add, Int.natCast_mul, Int.toNat_of_nonneg hx.1]
theorem numN_eq {v : Nat} {ws : List Int} (h : InW v ws) : ((numN v ws : Nat) : Int) = numI v ws := by
  have := numN_int h ws.length (Nat.le_refl _)
  rwa [List.take_length] at this
theorem flatMap_at {α β : Type} {f : α → List β} {L : Nat} : ∀ {l : List α} {i x : Nat} {a : α}, (∀ a ∈ l, (f a).length = L) → l[i]? = some a → x < L → (l.flatMap f)[i * L + x]? = (f a)[x]?
  | [], _, _, _, _, h, _ => by simp at h
  | b :: l, 0, x, a, hl, h, hx => by
    have h : some b = some a := h
    cases h
    rw [List.flatMap_cons, Nat.zero_mul, Nat.zero_add, List.getElem?_append_left (by rw [hl _ List.mem_cons_self]; exact hx)]
  | b :: l, i + 1, x, a, hl, h, hx => by
    have h : l[i]? = some a := h
    have hb := hl b List.mem_cons_self
    have e : (i + 1) * L + x = L + (i * L + x) := by rw [Nat.succ_mul]; omega
    rw [List.flatMap_cons, e, List.getElem?_append_right (by omega), hb, Nat.add_sub_cancel_left]
    exact flatMap_at (fun c hc => hl c (List.mem_cons_of_mem _ hc)) h hx
theorem allT_at {v : Nat} : ∀ (n : Nat) (ws : List Int), ws.length = n → InW v ws → (allT v n)[numN v ws]? = some ws
  | 0, ws, hn, _ => by
    rw [List.length_eq_zero_iff.mp hn]
    rfl
  | n + 1, ws, hn, hw => by
    have hx : ws[n]? = some ws[n] := List.getElem?_eq_getElem (by omega)
    have e : ws = ws.take n ++ [ws[n]] := by
      rw [← take_snoc hx, List.take_of_length_le (by omega)]
    have hr := hw ws[n] (List.getElem_mem _)
    have p := HW.pow_int v
    have ih := allT_at n (ws.take n) (by rw [List.length_take]; omega) (hw.take n)
    have lx : ws[n].toNat < 2 ^ v := by omega
    have key := flatMap_at (f := fun a => (List.range (2 ^ v)).map fun x : Nat => a ++ [(x : Int)]) (L := 2 ^ v) (fun a _ => by rw [List.length_map, List.length_range]) ih lx
    have num : numN v ws = numN v (ws.take n) * 2 ^ v + ws[n].toNat := by
      rw [← numN_snoc, ← e]
    rw [num]
    show ((allT v n).flatMap _)[_]? = _
    rw [key, List.getElem?_map, List.getElem?_range lx]
    show some (ws.take n ++ [((ws[n].toNat : Nat) : Int)]) = some ws
    rw [Int.toNat_of_nonneg hr.1, ← e]

/-! ### columns moved -/
def lowUp (c : Int) (k : Nat) (low : List Int) : List Int := (List.range low.length).map fun i => low.getD i 0 + bitI c i * 2 ^ k
def imgT (v n : Nat) (ts : List Nat) (ws : List Int) : List Int := (allT v n).getD (ts.getD (numN v ws) 0) []
def movesL (v n : Nat) (ts : List Nat) (k : Nat) (low : List Int) : List Int := (List.range (2 ^ n)).map fun c : Nat => colI (imgT v n ts (lowUp (c : Int) k low)) k
theorem lowUp_len (c : Int) (k : Nat) (low : List Int) : (lowUp c k low).length = low.length := by
  unfold lowUp
  rw [List.length_map, List.length_range]
theorem lowUp_in {c : Int} {k v : Nat} {low : List Int} (h : InW k low) (hk : k < v) : InW v (lowUp c k low) := fun y hy => by
  unfold lowUp at hy
  obtain ⟨i, _, rfl⟩ := List.mem_map.mp hy
  have b := bitI_range c i
  have l := h.get i
  have p := two_pow_pos k
  have e : (2 : Int) ^ (k + 1) ≤ 2 ^ v := by
    have := Nat.pow_le_pow_right (n := 2) (by decide) (show k + 1 ≤ v from hk)
    have e1 := HW.pow_int (k + 1)
    have e2 := HW.pow_int v
    omega
  rw [Int.pow_succ] at e
  have : bitI c i = 0 ∨ bitI c i = 1 := by omega
  rcases this with z | z <;> rw [z] <;> constructor <;> omega
theorem numN_lt {v n : Nat} {ws : List Int} (hn : ws.length = n) (h : InW v ws) : numN v ws < 2 ^ (n * v) := by
  have h1 := (numI_take h ws.length (Nat.le_refl _)).2
  rw [List.take_length, ← numN_eq h, hn] at h1
  have e := HW.pow_int (n * v)
  omega
theorem imgT_at {v n : Nat} {ts : List Nat} {ws : List Int} (hn : ws.length = n) (h : InW v ws) (hl : ts.length = 2 ^ (n * v)) (ht : ∀ p ∈ ts, p < 2 ^ (n * v)) : ∃ p, ts[numN v ws]? = some p ∧ (allT v n)[p]? = some (imgT v n ts ws) := by
  have lt := numN_lt hn h
  have e1 : ts[numN v ws]? = some ts[numN v ws] := List.getElem?_eq_getElem (by omega)
  have lt2 := ht _ (List.getElem_mem (show numN v ws < ts.length by omega))
  refine ⟨_, e1, ?_⟩
  unfold imgT
  rw [getD_of e1]
  have lt3 : ts[numN v ws] < (allT v n).length := by rw [allT_len]; exact lt2
  rw [List.getElem?_eq_getElem lt3, List.getD_eq_getElem?_getD, List.getElem?_eq_getElem lt3]
  rfl
theorem tupsD_at {l : List (List Int)} {p : Nat} {ws : List Int} (h : l[p]? = some ws) : atI ((tupsD l).map Ab.d) (p : Int) = some (aT (ws.map .int)) := atI_nat (by
  unfold tupsD
  rw [List.map_map, List.getElem?_map, h]
  rfl)
end HW
/-! Own layer, part L: two items of a list of our own stored at once. -/
namespace HW
open PySem PySem.Spec PyProof.Rows L2 RZ

section
variable {X : Cx} {Ff : Addr → Prop} {S : Sta} {D : AE} {e o i o2 i2 : Expr} {q : Addr} {k j j2 kt : Nat} {xs : List Ab} {n m2 : Int} {d d2 : PyData} {p1 p2 pt pos : Pos}
/-- l[i], l[j] = e, e a pair -/
theorem ds_setItem2 (hc : X.calm = true) (he : DE X S.rs S.M S.ρ e (Is (aT [d, d2]))) (ho : DE X S.rs S.M S.ρ o (Is (.at q))) (hi : DE X S.rs S.M S.ρ i (Is (aI n)))
    (ho2 : DE X S.rs (S.M.set k ⟨q, true, .lst (xs.set j (.d d))⟩) S.ρ o2 (Is (.at q))) (hi2 : DE X S.rs (S.M.set k ⟨q, true, .lst (xs.set j (.d d))⟩) S.ρ i2 (Is (aI m2)))
    (hM : S.M[k]? = some ⟨q, true, .lst xs⟩) (hj : ixN xs.length n = some j) (hj2 : ixN xs.length m2 = some j2) (kk : D.nx ⟨S.rs, S.M.set k ⟨q, true, .lst ((xs.set j (.d d)).set j2 (.d d2))⟩, S.ρ⟩)
    (g1 : PG X (.Subscript o i p1) (gSub (tD X.K S.rs S.M S.ρ (Is (.at q))) (tD X.K S.rs S.M S.ρ (Is (aI n))) rSetL))
    (g2 : PG X (.Subscript o2 i2 p2) (gSub (tD X.K S.rs (S.M.set k ⟨q, true, .lst (xs.set j (.d d))⟩) S.ρ (Is (.at q))) (tD X.K S.rs (S.M.set k ⟨q, true, .lst (xs.set j (.d d))⟩) S.ρ (Is (aI m2))) rSetL))
    (hs : swapsWithSole [Expr.Tuple [.Subscript o i p1, .Subscript o2 i2 p2] kt pt] e pos.line X.env = pure false := by rfl) (hw : swappedStores [Expr.Tuple [.Subscript o i p1, .Subscript o2 i2 p2] kt pt] e X.env = pure none := by rfl)
    (h1 : (assignEach [Expr.Tuple [.Subscript o i p1, .Subscript o2 i2 p2] kt pt] X.env).map (·.2) = [assign (.Tuple [.Subscript o i p1, .Subscript o2 i2 p2] kt pt) X.env] := by rfl)
    (hn : (assignEach [.Subscript o i p1, .Subscript o2 i2 p2] X.env).length = 2 := by rfl) (hst : (assignEach [.Subscript o i p1, .Subscript o2 i2 p2] X.env).findIdx? (·.1) = none := by rfl)
    (c1 : (assignEach [.Subscript o i p1, .Subscript o2 i2 p2] X.env).map (·.2) = assign (.Subscript o i p1) X.env :: (assignEach [.Subscript o2 i2 p2] X.env).map (·.2) := by rfl) (c2 : (assignEach [.Subscript o2 i2 p2] X.env).map (·.2) = assign (.Subscript o2 i2 p2) X.env :: (assignEach [] X.env).map (·.2) := by rfl) :
    DS X Ff S (.Assign [.Tuple [.Subscript o i p1, .Subscript o2 i2 p2] kt pt] e pos) D := fun G0 H0 =>
  ps_weak (ps_asg he (pg_tup hc (pgs_cons g1 (pgs_cons g2 pgs_nil c2) c1) hn hst) hs hw h1) fun De σ H ⟨G, s, nx, _⟩ => ⟨G, s.loc, s.ok, fun v a G1 H1 ra rep1 n1 => by
    have s1 := s.nxt n1
    subst ra
    have rep1 : Dp X.K G1 v (.tuple [d, d2]) := rep1
    cases rep1 with
    | tup hs' al =>
      cases al with
      | cons a1 al =>
        cases al with
        | cons a2 al =>
          cases al
          refine ⟨_, _, rfl, sqT_same s1.ok.gh hs', rfl, _, _, rfl, G1, s1.loc, s1.ok, fun u b G2 H2 rb rep2 n2 => ?_⟩
          subst rb
          have rep2 : u = .ref q := rep2
          subst rep2
          have s2 := s1.nxt n2
          refine ⟨G2, s2.loc, s2.ok, fun y c G3 H3 rc rep3 n3 => ?_⟩
          subst rc
          have rep3 : Dp X.K G3 y (.int n) := rep3
          cases rep3
          have s3 := s2.nxt n3
          obtain ⟨vs, e1, r⟩ := s3.own_lst hM
          have g13 := n2.g.trans n3.g
          have s4 := s3.chg (o' := .lst (xs.set j (.d d))) hM ⟨_, upd_same, r.set (K := X.K) (a := .d d) (show Rep X.K G3 _ (.d d) from dp_same g13 _ _ a1) j⟩
          refine ⟨q, vs, n, j, rfl, rfl, e1, by rw [r.length]; exact hj, _, _, rfl, G3, s4.loc, s4.ok, fun u b G4 H4 rb rep4 n4 => ?_⟩
          subst rb
          have rep4 : u = .ref q := rep4
          subst rep4
          have s5 := s4.nxt n4
          refine ⟨G4, s5.loc, s5.ok, fun y c G5 H5 rc rep5 n5 => ?_⟩
          subst rc
          have rep5 : Dp X.K G5 y (.int m2) := rep5
          cases rep5
          have s6 := s5.nxt n5
          have hM2 : (S.M.set k ⟨q, true, .lst (xs.set j (.d d))⟩)[k]? = some ⟨q, true, .lst (xs.set j (.d d))⟩ := List.getElem?_set_self (List.getElem?_eq_some_iff.mp hM).1
          obtain ⟨vs2, e2, r2⟩ := s6.own_lst hM2
          have s7 := s6.chg (o' := .lst ((xs.set j (.d d)).set j2 (.d d2))) hM2 ⟨_, upd_same, r2.set (K := X.K) (a := .d d2) (show Rep X.K G5 _ (.d d2) from dp_same (g13.trans (n4.g.trans n5.g)) _ _ a2) j2⟩
          rw [List.set_set] at s7
          exact ⟨q, vs2, m2, j2, rfl, rfl, e2, by rw [r2.length, List.length_set]; exact hj2, rfl, nx _ σ G5 _ kk s7⟩⟩
end
end HW
/-! Own layer, part M: rearrangements and their parity. -/
namespace HW
/-- pairs that stand the other way about -/
def inv : List Nat → Nat
  | [] => 0
  | x :: xs => xs.countP (fun y => decide (y < x)) + inv xs
def par (l : List Nat) : Nat := inv l % 2
theorem inv_adj {x y : Nat} (h : x ≠ y) (b : List Nat) : ∀ a : List Nat, (inv (a ++ x :: y :: b) + inv (a ++ y :: x :: b)) % 2 = 1
  | [] => by
    simp only [List.nil_append, inv, List.countP_cons, decide_eq_true_eq]
    rcases Nat.lt_or_gt_of_ne h with h1 | h1
    · rw [if_neg (show ¬ y < x by omega), if_pos h1]; omega
    · rw [if_pos (show y < x from h1), if_neg (show ¬ x < y by omega)]; omega
  | z :: a => by
    have ih := inv_adj h b a
    have e : (a ++ x :: y :: b).countP (fun u => decide (u < z)) = (a ++ y :: x :: b).countP (fun u => decide (u < z)) := by
      rw [List.countP_append, List.countP_append]
      simp only [List.countP_cons]
      omega
    simp only [List.cons_append, inv]
    omega
theorem inv_swap {x y : Nat} (hxy : x ≠ y) (b : List Nat) : ∀ (m a : List Nat), (∀ z ∈ m, x ≠ z ∧ z ≠ y) → (inv (a ++ x :: (m ++ y :: b)) + inv (a ++ y :: (m ++ x :: b))) % 2 = 1
  | [], a, _ => inv_adj hxy b a
  | z :: m, a, h => by
    have hz := h z List.mem_cons_self
    have h1 := inv_adj hz.1 (m ++ y :: b) a
    have h2 := inv_swap hxy b m (a ++ [z]) fun u hu => h u (List.mem_cons_of_mem _ hu)
    have h3 := inv_adj hz.2 (m ++ x :: b) a
    simp only [List.append_assoc, List.cons_append, List.nil_append] at *
    omega
/-- two places exchanged -/
def swp (l : List Nat) (i j : Nat) : List Nat := (l.set i (l.getD j 0)).set j (l.getD i 0)
theorem swp_len (l : List Nat) (i j : Nat) : (swp l i j).length = l.length := by
  unfold swp
  rw [List.length_set, List.length_set]
theorem swp_comm (l : List Nat) {i j : Nat} (h : i ≠ j) : swp l i j = swp l j i := by
  unfold swp
  rw [List.set_comm _ _ h]
theorem split_two {l : List Nat} {i j : Nat} (hij : i < j) (hj : j < l.length) : ∃ (a m b : List Nat) (x y : Nat), l = a ++ x :: (m ++ y :: b) ∧ a.length = i ∧ m.length = j - i - 1 ∧ l.getD i 0 = x ∧ l.getD j 0 = y := by
  refine ⟨l.take i, (l.drop (i + 1)).take (j - i - 1), l.drop (j + 1), l[i], l[j], ?_, by rw [List.length_take]; omega, by rw [List.length_take, List.length_drop]; omega, ?_, ?_⟩
  · have e1 : l = l.take i ++ l.drop i := (List.take_append_drop i l).symm
    have e2 : l.drop i = l[i] :: l.drop (i + 1) := List.drop_eq_getElem_cons (by omega)
    have e3 : l.drop (i + 1) = (l.drop (i + 1)).take (j - i - 1) ++ (l.drop (i + 1)).drop (j - i - 1) := (List.take_append_drop _ _).symm
    have e4 : (l.drop (i + 1)).drop (j - i - 1) = l[j] :: l.drop (j + 1) := by
      rw [List.drop_drop, show i + 1 + (j - i - 1) = j by omega]
      exact List.drop_eq_getElem_cons hj
    rw [e4] at e3
    rw [← e3, ← e2, ← e1]
  · rw [List.getD_eq_getElem?_getD, List.getElem?_eq_getElem (by omega)]; rfl
  · rw [List.getD_eq_getElem?_getD, List.getElem?_eq_getElem hj]; rfl
theorem swp_split {a m b : List Nat} {x y : Nat} : swp (a ++ x :: (m ++ y :: b)) a.length (a.length + m.length + 1) = a ++ y :: (m ++ x :: b) := by
  have g1 : (a ++ x :: (m ++ y :: b)).getD a.length 0 = x := by
    rw [List.getD_eq_getElem?_getD, List.getElem?_append_right (Nat.le_refl _), Nat.sub_self]; rfl
  have g2 : (a ++ x :: (m ++ y :: b)).getD (a.length + m.length + 1) 0 = y := by
    rw [List.getD_eq_getElem?_getD, List.getElem?_append_right (by omega), show a.length + m.length + 1 - a.length = m.length + 1 by omega, List.getElem?_cons_succ, List.getElem?_append_right (Nat.le_refl _), Nat.sub_self]; rfl
  unfold swp
  rw [g1, g2, List.set_append_right _ _ (Nat.le_refl _), Nat.sub_self, List.set_cons_zero, List.set_append_right _ _ (by omega), show a.length + m.length + 1 - a.length = m.length + 1 by omega, List.set_cons_succ, List.set_append_right _ _ (Nat.le_refl _), Nat.sub_self, List.set_cons_zero]
theorem swp_split' {l : List Nat} {i j : Nat} (hij : i < j) (hj : j < l.length) : ∃ (a m b : List Nat) (x y : Nat), l = a ++ x :: (m ++ y :: b) ∧ swp l i j = a ++ y :: (m ++ x :: b) := by
  obtain ⟨a, m, b, x, y, e, ha, hm, _, _⟩ := split_two hij hj
  refine ⟨a, m, b, x, y, e, ?_⟩
  have hj2 : j = a.length + m.length + 1 := by omega
  rw [hj2, ← ha, e]
  exact swp_split
theorem swp_inv {l : List Nat} {i j : Nat} (hd : l.Nodup) (hij : i ≠ j) (hi : i < l.length) (hj : j < l.length) : (inv (swp l i j) + inv l) % 2 = 1 := by
  have key : ∀ {i j : Nat}, i < j → j < l.length → (inv (swp l i j) + inv l) % 2 = 1 := by
    intro i j hij hj
    obtain ⟨a, m, b, x, y, e, e2⟩ := swp_split' hij hj
    rw [e2, e, Nat.add_comm]
    rw [e] at hd
    have h1 := (List.nodup_append.mp hd).2.1
    rw [List.nodup_cons] at h1
    have h2 := (List.nodup_append.mp h1.2)
    exact inv_swap (fun z => h1.1 (by rw [z]; exact List.mem_append_right _ List.mem_cons_self)) b m a fun z hz => ⟨fun q => h1.1 (by rw [q]; exact List.mem_append_left _ hz), fun q => h2.2.2 z hz y List.mem_cons_self q⟩
  rcases Nat.lt_or_gt_of_ne hij with h | h
  · exact key h hj
  · rw [swp_comm l hij]
    exact key h hi
theorem swp_perm {l : List Nat} {i j : Nat} (hij : i ≠ j) (hi : i < l.length) (hj : j < l.length) : (swp l i j).Perm l := by
  have key : ∀ {i j : Nat}, i < j → j < l.length → (swp l i j).Perm l := by
    intro i j hij hj
    obtain ⟨a, m, b, x, y, e, e2⟩ := swp_split' hij hj
    rw [e2, e]
    refine List.Perm.append_left a ?_
    have p1 : (y :: (m ++ x :: b)).Perm (y :: x :: (m ++ b)) := List.Perm.cons _ List.perm_middle
    have p2 : (x :: (m ++ y :: b)).Perm (x :: y :: (m ++ b)) := List.Perm.cons _ List.perm_middle
    exact p1.trans ((List.Perm.swap x y _).trans p2.symm)
  rcases Nat.lt_or_gt_of_ne hij with h | h
  · exact key h hj
  · rw [swp_comm l hij]
    exact key h hi
theorem swp_get {l : List Nat} {i j k : Nat} (hi : i < l.length) (hj : j < l.length) : (swp l i j).getD k 0 = if k = j then l.getD i 0 else if k = i then l.getD j 0 else l.getD k 0 := by
  unfold swp
  simp only [List.getD_eq_getElem?_getD]
  by_cases h1 : k = j
  · subst h1
    rw [if_pos rfl, List.getElem?_set_self (by rw [List.length_set]; exact hj)]; rfl
  · rw [if_neg h1, List.getElem?_set_ne (fun z => h1 z.symm)]
    by_cases h2 : k = i
    · subst h2
      rw [if_pos rfl, List.getElem?_set_self hi]; rfl
    · rw [if_neg h2, List.getElem?_set_ne (fun z => h2 z.symm)]

/-! ### rearrangements -/
structure IsP (N : Nat) (l : List Nat) : Prop where
  len : l.length = N
  nd : l.Nodup
  lt : ∀ x ∈ l, x < N
theorem len_le : ∀ {N : Nat} {l : List Nat}, l.Nodup → (∀ x ∈ l, x < N) → l.length ≤ N
  | 0, [], _, _ => Nat.le_refl _
  | 0, x :: _, _, h => absurd (h x List.mem_cons_self) (Nat.not_lt_zero _)
  | N + 1, l, nd, h => by
    by_cases hN : N ∈ l
    · have h1 := len_le (N := N) (l := l.erase N) (nd.erase N) fun x hx => by
        have h2 := h x (List.mem_of_mem_erase hx)
        have : x ≠ N := (List.Nodup.mem_erase_iff nd).mp hx |>.1
        omega
      rw [List.length_erase_of_mem hN] at h1
      omega
    · have h1 := len_le (N := N) nd fun x hx => by
        have h2 := h x hx
        have : x ≠ N := fun z => hN (z ▸ hx)
        omega
      omega
theorem IsP.mem {N : Nat} {l : List Nat} (h : IsP N l) {v : Nat} (hv : v < N) : v ∈ l := by
  refine Classical.byContradiction fun n => ?_
  have := len_le (N := N) (l := v :: l) (List.nodup_cons.mpr ⟨n, h.nd⟩) fun x hx => by
    rcases List.mem_cons.mp hx with e | e
    · rw [e]; exact hv
    · exact h.lt x e
  rw [List.length_cons, h.len] at this
  omega
theorem IsP.at {N : Nat} {l : List Nat} (h : IsP N l) {v : Nat} (hv : v < N) : ∃ i, i < N ∧ l.getD i 0 = v := by
  obtain ⟨i, hi⟩ := List.mem_iff_getElem?.mp (h.mem hv)
  have := (List.getElem?_eq_some_iff.mp hi).1
  exact ⟨i, by rw [← h.len]; exact this, getD_of hi⟩
theorem IsP.get {N : Nat} {l : List Nat} (h : IsP N l) {i : Nat} (hi : i < N) : l.getD i 0 < N := by
  have : i < l.length := by rw [h.len]; exact hi
  rw [List.getD_eq_getElem?_getD, List.getElem?_eq_getElem this]
  exact h.lt _ (List.getElem_mem _)
theorem IsP.inj {N : Nat} {l : List Nat} (h : IsP N l) {i j : Nat} (hi : i < N) (hj : j < N) (e : l.getD i 0 = l.getD j 0) : i = j := by
  have h1 : i < l.length := by rw [h.len]; exact hi
  have h2 : j < l.length := by rw [h.len]; exact hj
  rw [List.getD_eq_getElem?_getD, List.getD_eq_getElem?_getD, List.getElem?_eq_getElem h1, List.getElem?_eq_getElem h2] at e
  have pw := List.pairwise_iff_getElem.mp h.nd
  rcases Nat.lt_trichotomy i j with q | q | q
  · exact absurd e (pw i j h1 h2 q)
  · exact q
  · exact absurd e.symm (pw j i h2 h1 q)
theorem IsP.of_perm {N : Nat} {l r : List Nat} (h : IsP N l) (p : r.Perm l) : IsP N r := ⟨p.length_eq.trans h.len, p.nodup_iff.mpr h.nd, fun x hx => h.lt x (p.mem_iff.mp hx)⟩
theorem IsP.range (N : Nat) : IsP N (List.range N) := ⟨List.length_range, List.nodup_range, fun x h => List.mem_range.mp h⟩
theorem IsP.swp {N : Nat} {l : List Nat} (h : IsP N l) {i j : Nat} (hij : i ≠ j) (hi : i < N) (hj : j < N) : IsP N (swp l i j) := h.of_perm (swp_perm hij (by rw [h.len]; exact hi) (by rw [h.len]; exact hj))
theorem ext_getD {l r : List Nat} (hl : l.length = r.length) (h : ∀ i, i < l.length → l.getD i 0 = r.getD i 0) : l = r := by
  refine List.ext_getElem hl fun i h1 h2 => ?_
  have := h i h1
  rw [List.getD_eq_getElem?_getD, List.getD_eq_getElem?_getD, List.getElem?_eq_getElem h1, List.getElem?_eq_getElem h2] at this
  exact this
theorem IsP.is_range {N : Nat} {l : List Nat} (h : IsP N l) (f : ∀ i, i < N → l.getD i 0 = i) : l = List.range N := by
  refine ext_getD (by rw [h.len, List.length_range]) fun i hi => ?_
  have hi : i < N := by rw [← h.len]; exact hi
  rw [f i hi, List.getD_eq_getElem?_getD, List.getElem?_range hi]; rfl
/-- a list with unlike items, which its maker tells -/
theorem nodup_map_of {α : Type} {N : Nat} {f : Nat → α} (h : ∀ i j, i < N → j < N → f i = f j → i = j) : ((List.range N).map f).Nodup := by
  refine List.pairwise_iff_getElem.mpr fun i j hi hj hij e => ?_
  rw [List.length_map, List.length_range] at hi hj
  rw [List.getElem_map, List.getElem_map, List.getElem_range, List.getElem_range] at e
  have := h i j hi hj e
  omega
theorem inv_range_aux : ∀ (n s : Nat), inv (List.range' s n) = 0
  | 0, _ => rfl
  | n + 1, s => by
    rw [List.range'_succ]
    show List.countP _ _ + inv _ = 0
    rw [inv_range_aux n (s + 1)]
    have : (List.range' (s + 1) n).countP (fun y => decide (y < s)) = 0 := by
      rw [List.countP_eq_zero]
      intro x hx
      have := List.mem_range'_1.mp hx
      simp only [decide_eq_true_eq]
      omega
    omega
theorem par_range (N : Nat) : par (List.range N) = 0 := by
  unfold par
  rw [List.range_eq_range', inv_range_aux]
theorem par_swp {l : List Nat} {N i j : Nat} (h : IsP N l) (hij : i ≠ j) (hi : i < N) (hj : j < N) : (par (swp l i j) + par l) % 2 = 1 := by
  have := swp_inv h.nd hij (by rw [h.len]; exact hi) (by rw [h.len]; exact hj)
  unfold par
  omega
theorem par_lt (l : List Nat) : par l < 2 := Nat.mod_lt _ (by decide)

/-! ### one behind the other -/
def thnP (p q : List Nat) : List Nat := p.map fun x => q.getD x 0
theorem thnP_len (p q : List Nat) : (thnP p q).length = p.length := List.length_map ..
theorem thnP_get {p q : List Nat} {i : Nat} (h : i < p.length) : (thnP p q).getD i 0 = q.getD (p.getD i 0) 0 := by
  unfold thnP
  rw [List.getD_eq_getElem?_getD, List.getElem?_map, List.getElem?_eq_getElem h]
  rw [List.getD_eq_getElem?_getD (l := p), List.getElem?_eq_getElem h]
  rfl
theorem IsP.thnP {N : Nat} {p q : List Nat} (hp : IsP N p) (hq : IsP N q) : IsP N (thnP p q) := by
  refine ⟨(thnP_len p q).trans hp.len, ?_, fun x hx => ?_⟩
  · have e : HW.thnP p q = (List.range N).map fun i => q.getD (p.getD i 0) 0 := by
      refine ext_getD (by rw [thnP_len, hp.len, List.length_map, List.length_range]) fun i hi => ?_
      rw [thnP_len] at hi
      rw [thnP_get hi, List.getD_eq_getElem?_getD (l := (List.range N).map _), List.getElem?_map, List.getElem?_range (by rw [← hp.len]; exact hi)]
      rfl
    rw [e]
    exact nodup_map_of fun i j hi hj q2 => hp.inj hi hj (hq.inj (hp.get hi) (hp.get hj) q2)
  · unfold HW.thnP at hx
    obtain ⟨y, hy, rfl⟩ := List.mem_map.mp hx
    exact hq.get (hp.lt y hy)
theorem thnP_swp {p q : List Nat} {i j : Nat} (hi : i < p.length) (hj : j < p.length) : thnP (swp p i j) q = swp (thnP p q) i j := by
  refine ext_getD (by rw [thnP_len, swp_len, swp_len, thnP_len]) fun k hk => ?_
  rw [thnP_len, swp_len] at hk
  rw [thnP_get (by rw [swp_len]; exact hk), swp_get hi hj, swp_get (by rw [thnP_len]; exact hi) (by rw [thnP_len]; exact hj), thnP_get hi, thnP_get hj, thnP_get hk]
  by_cases h1 : k = j
  · rw [if_pos h1, if_pos h1]
  · rw [if_neg h1, if_neg h1]
    by_cases h2 : k = i
    · rw [if_pos h2, if_pos h2]
    · rw [if_neg h2, if_neg h2]
theorem thnP_range {N : Nat} {q : List Nat} (hq : q.length = N) : thnP (List.range N) q = q := by
  refine ext_getD (by rw [thnP_len, List.length_range, hq]) fun i hi => ?_
  rw [thnP_len] at hi
  rw [thnP_get hi]
  rw [List.length_range] at hi
  rw [List.getD_eq_getElem?_getD (l := List.range N), List.getElem?_range hi]
  rfl
theorem par_thnP_aux {N : Nat} {q : List Nat} (hq : IsP N q) : ∀ (k : Nat) (p : List Nat), IsP N p → k ≤ N → (∀ i, i < N - k → p.getD i 0 = i) → (par (thnP p q) + par p + par q) % 2 = 0
  | 0, p, hp, _, h => by
    rw [hp.is_range h, thnP_range hq.len, par_range]
    omega
  | k + 1, p, hp, hk, h => by
    have hi : N - (k + 1) < N := by omega
    generalize hi0 : N - (k + 1) = i at *
    by_cases e : p.getD i 0 = i
    · exact par_thnP_aux hq k p hp (by omega) fun j hj => by
        by_cases z : j = i
        · rw [z]; exact e
        · exact h j (by omega)
    · obtain ⟨j, hj, ej⟩ := hp.at hi
      have hij : i ≠ j := fun z => e (by rw [← z] at ej; exact ej)
      have ge : ¬ j < i := fun z => hij ((h j z).symm.trans ej).symm
      have hp' := hp.swp hij hi hj
      have ih := par_thnP_aux hq k (swp p i j) hp' (by omega) fun m hm => by
        rw [swp_get (by rw [hp.len]; exact hi) (by rw [hp.len]; exact hj)]
        by_cases z : m = i
        · rw [if_neg (by omega), if_pos z, ej, z]
        · rw [if_neg (by omega), if_neg z]
          exact h m (by omega)
      rw [thnP_swp (by rw [hp.len]; exact hi) (by rw [hp.len]; exact hj)] at ih
      have s1 := par_swp hp hij hi hj
      have s2 := par_swp (hp.thnP hq) hij hi hj
      omega
/-- THE SIGN of two rearrangements one behind the other -/
theorem par_thnP {N : Nat} {p q : List Nat} (hp : IsP N p) (hq : IsP N q) : par (thnP p q) = (par p + par q) % 2 := by
  have := par_thnP_aux hq N p hp (Nat.le_refl _) fun i hi => by omega
  have := par_lt (thnP p q)
  omega

/-! ### cycles -/
/-- where c stands after i steps -/
def orb (p : List Nat) (c : Nat) : Nat → Nat
  | 0 => c
  | i + 1 => p.getD (orb p c i) 0
theorem orb_lt {N : Nat} {p : List Nat} (hp : IsP N p) {c : Nat} (hc : c < N) : ∀ i, orb p c i < N
  | 0 => hc
  | i + 1 => hp.get (orb_lt hp hc i)
theorem orb_back {N : Nat} {p : List Nat} (hp : IsP N p) {c : Nat} (hc : c < N) : ∀ {i j : Nat}, i ≤ j → orb p c i = orb p c j → orb p c (j - i) = c
  | 0, j, _, e => by rw [Nat.sub_zero]; exact e.symm
  | i + 1, 0, h, _ => absurd h (by omega)
  | i + 1, j + 1, h, e => by
    have := orb_back hp hc (i := i) (j := j) (by omega) (hp.inj (orb_lt hp hc i) (orb_lt hp hc j) e)
    rwa [show j + 1 - (i + 1) = j - i by omega]
theorem orb_ex {N : Nat} {p : List Nat} (hp : IsP N p) {c : Nat} (hc : c < N) : ∃ m, 1 ≤ m ∧ m ≤ N ∧ orb p c m = c ∧ ∀ i, 1 ≤ i → i < m → orb p c i ≠ c := by
  have some1 : ∃ m, 1 ≤ m ∧ m ≤ N ∧ orb p c m = c := by
    refine Classical.byContradiction fun no => ?_
    have nd : ((List.range (N + 1)).map (orb p c)).Nodup := nodup_map_of fun i j hi hj e => by
      rcases Nat.lt_trichotomy i j with h | h | h
      · exact absurd ⟨j - i, by omega, by omega, orb_back hp hc (Nat.le_of_lt h) e⟩ no
      · exact h
      · exact absurd ⟨i - j, by omega, by omega, orb_back hp hc (Nat.le_of_lt h) e.symm⟩ no
    have := len_le (N := N) nd fun x hx => by
      obtain ⟨i, _, rfl⟩ := List.mem_map.mp hx
      exact orb_lt hp hc i
    rw [List.length_map, List.length_range] at this
    omega
  obtain ⟨m, h1, h2, h3⟩ := some1
  have least : ∀ k, ∀ m, m ≤ k → 1 ≤ m → m ≤ N → orb p c m = c → ∃ m, 1 ≤ m ∧ m ≤ N ∧ orb p c m = c ∧ ∀ i, 1 ≤ i → i < m → orb p c i ≠ c := by
    intro k
    induction k with
    | zero => intro m h h1; omega
    | succ k ih =>
      intro m h h1 h2 h3
      by_cases q : ∃ i, 1 ≤ i ∧ i < m ∧ orb p c i = c
      · obtain ⟨i, a, b, e⟩ := q
        exact ih i (by omega) a (by omega) e
      · exact ⟨m, h1, h2, h3, fun i a b e => q ⟨i, a, b, e⟩⟩
  exact least m m (Nat.le_refl _) h1 h2 h3
theorem orb_inj {N : Nat} {p : List Nat} (hp : IsP N p) {c m : Nat} (hc : c < N) (hm : ∀ i, 1 ≤ i → i < m → orb p c i ≠ c) {i j : Nat} (hi : i < m) (hj : j < m) (e : orb p c i = orb p c j) : i = j := by
  rcases Nat.lt_trichotomy i j with h | h | h
  · exact absurd (orb_back hp hc (Nat.le_of_lt h) e) (hm _ (by omega) (by omega))
  · exact h
  · exact absurd (orb_back hp hc (Nat.le_of_lt h) e.symm) (hm _ (by omega) (by omega))
/-- t exchanges along the cycle: the first t places behind c stay from now on -/
theorem orb_fix {N : Nat} {p : List Nat} (hp : IsP N p) {c m : Nat} (hc : c < N) (hm : ∀ i, 1 ≤ i → i < m → orb p c i ≠ c) : ∀ t, t + 1 ≤ m → ∃ l, IsP N l ∧ (par l + t + par p) % 2 = 0 ∧ l.getD c 0 = orb p c (t + 1) ∧ (∀ i, 1 ≤ i → i ≤ t → l.getD (orb p c i) 0 = orb p c i) ∧ ∀ x, x < N → x ≠ c → (∀ i, 1 ≤ i → i ≤ t → x ≠ orb p c i) → l.getD x 0 = p.getD x 0
  | 0, _ => ⟨p, hp, by omega, rfl, fun i a b => by omega, fun x _ _ _ => rfl⟩
  | t + 1, ht => by
    obtain ⟨l, hl, h1, h2, h3, h4⟩ := orb_fix hp hc hm t (by omega)
    have hg : orb p c (t + 1) ≠ c := hm _ (by omega) (by omega)
    have hgN := orb_lt hp hc (t + 1)
    have new : ∀ i, 1 ≤ i → i ≤ t → orb p c (t + 1) ≠ orb p c i := fun i a b e => by
      have := orb_inj hp hc hm (i := t + 1) (j := i) (by omega) (by omega) e
      omega
    have s := par_swp hl (fun z => hg z.symm) hc hgN
    have lc : c < l.length := by rw [hl.len]; exact hc
    have lg : orb p c (t + 1) < l.length := by rw [hl.len]; exact hgN
    refine ⟨swp l c (orb p c (t + 1)), hl.swp (fun z => hg z.symm) hc hgN, by omega, ?_, fun i a b => ?_, fun x hx hxc hxi => ?_⟩
    · rw [swp_get lc lg, if_neg (fun z => hg z.symm), if_pos rfl, h4 _ hgN hg new]
      rfl
    · rw [swp_get lc lg]
      by_cases z : i = t + 1
      · subst z
        rw [if_pos rfl, h2]
      · rw [if_neg (fun q => new i a (by omega) q.symm), if_neg (hm i a (by omega))]
        exact h3 i a (by omega)
    · rw [swp_get lc lg, if_neg (hxi (t + 1) (by omega) (Nat.le_refl _)), if_neg hxc]
      exact h4 x hx hxc fun i a b => hxi i a (by omega)
end HW
/-! Own layer, part N: dicts of our own whose keys are a number and a tuple of numbers. -/
namespace HW
open PySem PySem.Spec PyProof.Rows L2 RZ
theorem nums_hash (w w' : World) : ∀ ns : List Int, NestedKey.hashes w (ns.map .num) = NestedKey.hashes w' (ns.map .num)
  | [] => by simp only [List.map_nil, NestedKey.hashes]
  | n :: ns => by simp only [List.map_cons, NestedKey.hashes, NestedKey.hash, nums_hash w w' ns]
theorem nkey_hash (w w' : World) (k : NK) : (nkey k).hash w = (nkey k).hash w' := by
  unfold nkey
  simp only [NestedKey.hash, NestedKey.hashes, nums_hash w w']
theorem nums_depth : ∀ ns : List Int, NestedKey.depthAll (ns.map .num) = 0
  | [] => by simp only [List.map_nil, NestedKey.depthAll]
  | n :: ns => by simp only [List.map_cons, NestedKey.depthAll, NestedKey.depth, nums_depth ns, Nat.max_self]
theorem nkey_depth (k : NK) : (nkey k).depth ≤ 8 := by
  unfold nkey
  simp only [NestedKey.depth, NestedKey.depthAll, nums_depth]
  decide
theorem nums_inj : ∀ {a b : List Int}, a.map NestedKey.num = b.map NestedKey.num → a = b
  | [], [], _ => rfl
  | [], _ :: _, e => by simp at e
  | _ :: _, [], e => by simp at e
  | x :: xs, y :: ys, e => by
    rw [List.map_cons, List.map_cons] at e
    injection e with e1 e2
    injection e1 with e1
    rw [e1, nums_inj e2]
theorem nkey_inj {a b : NK} (h : nkey a = nkey b) : a = b := by
  unfold nkey at h
  injection h with h
  injection h with h1 h2
  injection h1 with h1
  injection h2 with h2 _
  injection h2 with h2
  exact Prod.ext h1 (nums_inj h2)
section
variable {X : Cx} {pins : List (Addr × Obj)} {σ : L2.St} {H : Hp} {s : Shared}
theorem nis_ints : ∀ {vs : List V} {us : List Value} {ns : List Int} {h : Heap}, DpAll X.K H vs (ns.map .int) → Vals vs us → NestedAll h (ns.map .num) us
  | [], _, [], _, _, r => by cases r; exact .nil
  | v :: vs, _, n :: ns, h, d, r => by
    rw [List.map_cons] at d
    cases d with
    | cons d1 d2 =>
      cases r with
      | cons r1 r2 =>
        cases d1
        obtain ⟨t, rfl⟩ := r1
        exact .cons (.int _ _) (nis_ints d2 r2)
  | [], _, _ :: _, _, d, _ => by rw [List.map_cons] at d; cases d
  | _ :: _, _, [], _, d, _ => by rw [List.map_nil] at d; cases d
theorem nis_key (I : Inv X pins σ H s) {v : V} {k : NK} (h : Dp X.K H v (nkD k)) : ∃ b, v = .ref b ∧ NestedIs s.heap (nkey k) (.ref b) := by
  unfold nkD at h
  cases h with
  | @tup a xs _ hs ha =>
    obtain ⟨its, r, ⟨o, e1, e2, n, e3⟩, _⟩ := I.tuple hs
    refine ⟨a, rfl, .tup e1 e2 e3 ?_⟩
    rw [List.toList_toArray]
    cases ha with
    | cons d1 d2 =>
      cases d2 with
      | cons d2 d3 =>
        cases d3
        cases r with
        | cons r1 r2 =>
          cases r2 with
          | cons r2 r3 =>
            cases r3
            cases d1
            obtain ⟨t, rfl⟩ := r1
            refine .cons (.int _ _) (.cons ?_ .nil)
            cases d2 with
            | @tup a2 xs2 _ hs2 ha2 =>
              obtain ⟨its2, q, ⟨o2, f1, f2, n2, f3⟩, _⟩ := I.tuple hs2
              cases (show _ = Value.ref a2 from r2)
              exact .tup f1 f2 f3 (by rw [List.toList_toArray]; exact nis_ints ha2 q)
abbrev PN : List (NK × Addr × V) → List (NK × Addr × Value) → Prop := Paired fun p q => p.1 = q.1 ∧ p.2.1 = q.2.1 ∧ RelV p.2.2 q.2.2
abbrev nz (ys : List (NK × Addr × Value)) : List (NestedKey × Addr × Value) := ys.map fun y => (nkey y.1, y.2)
theorem nd_dict (I : Inv X pins σ H s) {a : Addr} {xs : List (NK × Addr × V)} (e : H a = some (NdO a xs)) (hk : ∀ x ∈ xs, Dp X.K H (.ref x.2.1) (nkD x.1)) :
    ∃ ys, PN xs ys ∧ s.heap.DictOfH (nestedKind X.prog X.w) a (nz ys) := by
  obtain ⟨⟨ys, pr, o, es, ep, h1, h2, h3, h4, h5⟩, _⟩ := (show ObjOk X.prog X.w H s.heap a (NdO a xs) from I.hok a _ e)
  refine ⟨ys, pr, o, es, ep, h1, h2, h3, ?_, ?_, ?_⟩
  · rw [h4 X.w, List.map_map]
    rfl
  · have all : ∀ {l : List (NK × Addr × V)} {m : List (NK × Addr × Value)}, PN l m → (∀ x ∈ l, Dp X.K H (.ref x.2.1) (nkD x.1)) → ∀ z ∈ nz m, (nestedKind X.prog X.w).is s.heap z.1 z.2.1 := by
      intro l m q
      induction q with
      | nil => intro _ z hz; exact nomatch hz
      | @cons p q ps qs hq t ih =>
        intro hl z hz
        rcases List.mem_cons.mp hz with e | hz
        · subst e
          obtain ⟨b, e1, e2⟩ := nis_key I (hl p List.mem_cons_self)
          refine ⟨?_, nkey_depth _⟩
          have e3 : p.2.1 = b := by injection e1
          show NestedIs s.heap (nkey q.1) (.ref q.2.1)
          rw [← hq.1, ← hq.2.1, e3]
          exact e2
        · exact ih (fun x hx => hl x (List.mem_cons_of_mem _ hx)) z hz
    exact all pr hk
  · have e2 : (nz ys).map (·.1) = (ys.map (·.1)).map nkey := by
      rw [List.map_map, List.map_map]
      rfl
    rw [e2]
    exact (List.pairwise_map.mpr (h5.imp fun {a b} n q => n (nkey_inj q)))
def valN (kvs : List (NK × Ab)) (k : NK) : Option Ab := (kvs.find? fun kv => decide (kv.1 = k)).map (·.2)
theorem valN_get {G : Hp} {k : NK} {y : Ab} : ∀ {xs : List (NK × Addr × V)} {ys : List (NK × Addr × Value)} {kvs : List (NK × Ab)}, PN xs ys → xs.map (·.1) = kvs.map (·.1) → RepAll X.K G (xs.map (·.2.2)) (kvs.map (·.2)) → valN kvs k = some y →
    ∃ (p : Addr × Value) (v : V), atKey (nz ys) (nkey k) = some p ∧ RelV v p.2 ∧ Rep X.K G v y
  | [], _, [], _, _, _, h => by cases h
  | x :: xs, _, kv :: kvs, pr, e, r, h => by
    cases pr with
    | @cons _ q _ qs hq t =>
      rw [List.map_cons, List.map_cons] at e
      obtain ⟨e1, e2⟩ := List.cons.inj e
      rw [List.map_cons, List.map_cons] at r
      obtain ⟨r1, r2⟩ := r
      by_cases z : kv.1 = k
      · have hz : valN (kv :: kvs) k = some kv.2 := by simp [valN, List.find?_cons, z]
        rw [hz] at h
        cases h
        have ez : nkey q.1 = nkey k := by rw [← hq.1, e1, z]
        exact ⟨q.2, x.2.2, by simp [atKey, nz, List.find?_cons, ez], hq.2.2, r1⟩
      · have hz : valN (kv :: kvs) k = valN kvs k := by simp [valN, List.find?_cons, z]
        rw [hz] at h
        obtain ⟨p, v, h1, h2, h3⟩ := valN_get t e2 r2 h
        refine ⟨p, v, ?_, h2, h3⟩
        have ez : ¬ nkey q.1 = nkey k := fun n => z (by rw [← e1, hq.1]; exact nkey_inj n)
        rw [← h1]
        simp [atKey, nz, List.find?_cons, ez]
  | [], _, _ :: _, _, e, _, _ => by cases e
  | _ :: _, _, [], _, e, _, _ => by cases e
theorem nkeys_of {k : NK} : ∀ {xs : List (NK × Addr × V)} {ys : List (NK × Addr × Value)}, PN xs ys → ys.map (·.1) = xs.map (·.1)
  | [], _, pr => by cases pr; rfl
  | x :: xs, _, pr => by
    cases pr with
    | cons hq t => rw [List.map_cons, List.map_cons, nkeys_of (k := k) t, hq.1]
theorem atKey_new {k : NK} {ys : List (NK × Addr × Value)} (h : k ∉ ys.map (·.1)) : atKey (nz ys) (nkey k) = none := by
  refine atKey_none_of_get fun j p e => ?_
  rw [List.getElem?_map] at e
  obtain ⟨y, hy, e2⟩ := Option.map_eq_some_iff.mp e
  injection e2 with e2 _
  exact h (List.mem_map.mpr ⟨y, List.mem_of_getElem? hy, nkey_inj e2⟩)
/-- d[k], there -/
def tNGet (K : PySem.W.Frag) (td ty : TE) : TE := fun σ H Q => td σ H fun x H1 => ty σ H1 fun y H2 => ∃ G q kvs k a v, Same G H2 ∧ x = .ref q ∧ MRep K G H2 q (.nd kvs) ∧ Dp K G y (nkD k) ∧ valN kvs k = some a ∧ (∀ v, Rep K G v a → Q v H2) ∧ v = ()
variable {o i e : Expr} {pos pos' : Pos} {td ty tv : TE}
theorem pe_nget (hu : X.A.units + 64 < cLine) (ho : PE X o td) (hi : PE X i ty) (hs : NoSl i) : PE X (.Subscript o i pos) (tNGet X.K td ty) := by
  refine ⟨fun pins s σ H Q I h => ?_⟩
  refine subD_of PySem.F.slot_dict_getitem.lookup hs (thn (ho.run pins s σ H _ I h) fun u s1 ⟨x, H1, I1, rx, q1⟩ => thn (hi.run pins s1 σ H1 _ I1 q1) fun iv s2 ⟨y, H2, I2, ry, G, q, kvs, k, a, _, gh, ex, m, dk, hv, q2, _⟩ => ?_)
  subst ex
  obtain rfl : u = Value.ref q := rx
  obtain ⟨xs, e1, e2, e3, e4, e5⟩ := m
  obtain ⟨ys, pr, dd⟩ := nd_dict I2 e1 fun x hx => dp_same gh _ _ (e5 x hx)
  obtain ⟨b, rfl, nk⟩ := nis_key I2 (dp_same gh _ _ dk)
  obtain rfl : iv = Value.ref b := ry
  obtain ⟨p, v, h1, h2, h3⟩ := valN_get pr e3 e4 hv
  exact ⟨dd.typeIs, wpAny_getItem_heap (knd := nestedKind X.prog X.w) (show X.A.in1.units + 8 < cLine from by show X.A.units + 1 + 8 < cLine; omega) ⟨nk, nkey_depth k⟩ dd h1 ⟨v, H2, I2.tok _, h2, q2 v h3⟩⟩
theorem pe_nnew : PE X (.Dict [] [] pos) (fun _ H Q => ∀ p, H p = none → (p == sysModules) = false → Q (.ref p) (upd H p (NdO p []))) := ⟨fun pins s σ H Q I h => by
  have hs : (s.heap.objs.size == sysModules) = false := beq_eq_false_iff_ne.mpr (Ne.symm (Nat.ne_of_lt I.big))
  refine wpAny_Dict_empty ⟨.ref s.heap.objs.size, _, I.laid (a := s.heap.objs.size) (o := NdO s.heap.objs.size []) (t' := s.toks) (fun _ _ q => Heap.get?_push_of_some _ q) (Nat.le_refl _) ⟨⟨[], .nil, _, #[], 0, Heap.get?_push_size _ rfl, ⟨rfl, rfl, rfl⟩, rfl, fun _ => rfl, List.nodup_nil⟩, ⟨_, Heap.get?_push_size _ rfl⟩, ?_⟩, rfl, h _ (I.hok.fresh (Nat.le_refl _)) hs⟩
  exact fun h1 h2 ⟨ys, pr, o, es, ep, a, b⟩ st => ⟨ys, pr, o, es, ep, st _ a, b⟩⟩
theorem ndO_stay {a : Addr} {xs : List (NK × Addr × V)} : ∀ h1 h2 : Heap, (∃ ys : List (NK × Addr × Value), PN xs ys ∧ ∃ o es ep, h1.get? a = some o ∧ o.ExactDict ∧ o.data = .dict es ep ∧ (∀ w : World, es.toList = ys.map fun x => ⟨(nkey x.1).hash w, .ref x.2.1, x.2.2⟩) ∧ (ys.map (·.1)).Nodup) →
    (∀ o, h1.get? a = some o → h2.get? a = some o) → (∃ ys : List (NK × Addr × Value), PN xs ys ∧ ∃ o es ep, h2.get? a = some o ∧ o.ExactDict ∧ o.data = .dict es ep ∧ (∀ w : World, es.toList = ys.map fun x => ⟨(nkey x.1).hash w, .ref x.2.1, x.2.2⟩) ∧ (ys.map (·.1)).Nodup) :=
  fun h1 h2 ⟨ys, pr, o, es, ep, a, b⟩ st => ⟨ys, pr, o, es, ep, st _ a, b⟩
theorem pn_snoc {x : NK × Addr × V} {y : NK × Addr × Value} (h : x.1 = y.1 ∧ x.2.1 = y.2.1 ∧ RelV x.2.2 y.2.2) : ∀ {xs : List (NK × Addr × V)} {ys : List (NK × Addr × Value)}, PN xs ys → PN (xs ++ [x]) (ys ++ [y])
  | _, _, .nil => .cons h .nil
  | _, _, .cons a t => .cons a (pn_snoc h t)
theorem pn_len : ∀ {xs : List (NK × Addr × V)} {ys : List (NK × Addr × Value)}, PN xs ys → ys.length = xs.length
  | _, _, .nil => rfl
  | _, _, .cons a t => by rw [List.length_cons, List.length_cons, pn_len t]
/-- d[k] = v, a new key -/
def sNPut (K : PySem.W.Frag) (td ty tv : TE) : TS := fun D σ H => tv σ H fun v H1 => td σ H1 fun x H2 => ty σ H2 fun y H3 => ∃ G q xs k, Same G H3 ∧ x = .ref q ∧ H3 q = some (NdO q xs) ∧ (∀ x ∈ xs, Dp K G (.ref x.2.1) (nkD x.1)) ∧ xs.length ≤ 100000 ∧ Dp K G y (nkD k) ∧ k ∉ xs.map (·.1) ∧ ∀ b, y = .ref b → D.nx σ (upd H3 q (NdO q (xs ++ [(k, b, v)])))
theorem ps_nput (hu : X.A.units + 64 < cLine) (ho : PE X o td) (hi : PE X i ty) (hv : PE X e tv) (hs : swapsWith e (some (.Subscript o i pos')) pos.line X.env = pure false) : PS X (.Assign [.Subscript o i pos'] e pos) (sNPut X.K td ty tv) := by
  refine ⟨fun pins s σ H D I h => ?_⟩
  refine wpAny_Assign_Subscript (thn (hv.run pins s σ H _ I h) fun r s1 ⟨v, H1, I1, rv, q1⟩ => thn (ho.run pins s1 σ H1 _ I1 q1) fun u s2 ⟨x, H2, I2, rx, q2⟩ => thn (hi.run pins s2 σ H2 _ I2 q2) fun iv s3 ⟨y, H3, I3, ry, G, q, xs, k, gh, ex, e1, e5, hl, dk, hn, q3⟩ => ?_) hs
  subst ex
  obtain rfl : u = Value.ref q := rx
  obtain ⟨ys, pr, dd⟩ := nd_dict I3 e1 fun x hx => dp_same gh _ _ (e5 x hx)
  obtain ⟨b, rfl, nk⟩ := nis_key I3 (dp_same gh _ _ dk)
  obtain rfl : iv = Value.ref b := ry
  have hn2 : k ∉ ys.map (·.1) := by rw [nkeys_of (k := k) pr]; exact hn
  refine wpAny_setItem_heap (knd := nestedKind X.prog X.w) (hsz := by rw [List.length_map, pn_len pr]; exact Nat.le_trans hl (by decide)) (show X.A.in1.units + 8 < cLine from by show X.A.units + 1 + 8 < cLine; omega) ⟨nk, nkey_depth k⟩ dd fun h' dd' hb => ?_
  rw [storedH_new (atKey_new hn2)] at dd'
  obtain ⟨o', es, ep, a1, a2, a3, a4, a5, a6⟩ := dd'
  have he : nz ys ++ [(nkey k, b, r)] = nz (ys ++ [(k, b, r)]) := by
    unfold nz
    rw [List.map_append]
    rfl
  rw [he] at a4 a6
  refine ⟨σ, _, ?_, q3 b rfl⟩
  refine I3.write (x := q) (e := q) (by rw [e1]; exact True.intro) (.inl rfl) (fun c z hc y => (hb.2 c hc).trans y) ⟨_, a1⟩ ⟨⟨ys ++ [(k, b, r)], pn_snoc ⟨rfl, rfl, rv⟩ pr, o', es, ep, a1, a2, a3, fun w => ?_, ?_⟩, ⟨_, a1⟩, ndO_stay⟩
  · rw [a4]
    unfold nz
    rw [List.map_map]
    refine List.map_congr_left fun x hx => ?_
    show (⟨(nkey x.1).hash X.w, _, _⟩ : DictEntry) = _
    rw [nkey_hash X.w w]
  · have e2 : (nz (ys ++ [(k, b, r)])).map (·.1) = ((ys ++ [(k, b, r)]).map (·.1)).map nkey := by
      unfold nz
      rw [List.map_map, List.map_map]
      rfl
    rw [e2] at a6
    exact (List.pairwise_map.mp a6).imp fun {a b} n q => n (by rw [q])
end

/-! ### in the own layer's words -/
/-- such a dict, read only -/
abbrev aRows (K : PySem.W.Frag) (kvs : List (NK × Ab)) : Ab := .raw fun v G => ∃ q, v = .ref q ∧ MRep K G G q (.nd kvs)
section
variable {X : Cx} {rs : Rs} {M : Mem} {ρ : List (Option Ab)} {o i e : Expr} {pos p : Pos} {y : Ab} {q : Addr} {b : Bool} {kvs : List (NK × Ab)} {k : NK}
theorem de_nget (hu : X.A.units + 64 < cLine) (ho : DE X rs M ρ o (Is (aRows X.K kvs))) (hi : DE X rs M ρ i (Is (.d (nkD k)))) (hv : valN kvs k = some y) (hs : NoSl i := by intro _ _; rfl) : DE X rs M ρ (.Subscript o i pos) (Is y) :=
  pe_weak (pe_nget hu ho hi hs) fun σ H Q ⟨G, l, ok, kk⟩ => tD_go l ok fun v z G1 H1 rz rep1 l1 ok1 n1 => ⟨G1, l1, ok1, fun u w G2 H2 rw2 rep2 n2 => by
    subst rz rw2
    obtain ⟨G0, e0, q, eq, m⟩ := rep1
    have ok2 := ok1.nxt n2
    have g02 : Same G0 G2 := e0.trans n2.g
    exact ⟨G2, q, kvs, k, y, (), ok2.gh, eq, m.same g02 fun o h => ok2.gh _ _ (g02 _ _ h), rep2, hv, fun v rv => kk v y G2 H2 rfl rv (n1.trans n2 ok), rfl⟩⟩
theorem de_ngetM (hu : X.A.units + 64 < cLine) (ho : DE X rs M ρ o (Is (.at q))) (hM : (⟨q, b, .nd kvs⟩ : Me) ∈ M) (hi : DE X rs M ρ i (Is (.d (nkD k)))) (hv : valN kvs k = some y) (hs : NoSl i := by intro _ _; rfl) : DE X rs M ρ (.Subscript o i pos) (Is y) :=
  pe_weak (pe_nget hu ho hi hs) fun σ H Q ⟨G, l, ok, kk⟩ => tD_go l ok fun v z G1 H1 rz rep1 l1 ok1 n1 => ⟨G1, l1, ok1, fun u w G2 H2 rw2 rep2 n2 => by
    subst rz rw2
    have rep1 : v = .ref q := rep1
    have ok2 := ok1.nxt n2
    obtain ⟨_, _, m⟩ := ok2.m _ hM
    exact ⟨G2, q, kvs, k, y, (), ok2.gh, rep1, m, rep2, hv, fun v rv => kk v y G2 H2 rfl rv (n1.trans n2 ok), rfl⟩⟩
end
section
variable {K : PySem.W.Frag} {Ff : Addr → Prop} {G0 H0 G H G1 H1 : Hp} {S : Sta} {σ : L2.St}
/-- a new thing of our own -/
theorem Stand.pushM {p : Addr} {mo : MO} (s : Stand K Ff G0 H0 S σ G H) (n : Nxt S.rs G H G1 H1) (m : MRep K G1 H1 p mo) (g1 : G1 p = none) (h0 : H p = none) :
    Stand K Ff G0 H0 ⟨S.rs, ⟨p, true, mo⟩ :: S.M, S.ρ⟩ σ G1 H1 := by
  have s1 := s.nxt n
  have was : ∀ e ∈ S.M, e.p ≠ p := fun e he z => by
    obtain ⟨_, _, m⟩ := s.ok.m e he
    obtain ⟨u, hu⟩ := m.there
    rw [z, h0] at hu
    cases hu
  refine ⟨s1.loc, ⟨s1.ok.gh, s1.ok.sep, s1.ok.i, fun e he => ?_, fun j k e f h1 h2 h3 => ?_⟩, s1.lie, fun e he hm => ?_, s1.fr⟩
  · rcases List.mem_cons.mp he with z | z
    · subst z
      exact ⟨g1, s.ok.free h0, m⟩
    · exact s1.ok.m e z
  · cases j with
    | zero =>
      have h1 : _ = e := Option.some.inj h1
      subst h1
      cases k with
      | zero => rfl
      | succ k =>
        have h2' : S.M[k]? = some f := h2
        exact absurd h3.symm (was f (List.mem_of_getElem? h2'))
    | succ j =>
      have h1' : S.M[j]? = some e := h1
      cases k with
      | zero =>
        have h2 : _ = f := Option.some.inj h2
        subst h2
        exact absurd h3 (was e (List.mem_of_getElem? h1'))
      | succ k =>
        have h2' : S.M[k]? = some f := h2
        rw [s1.ok.nd j k e f h1' h2' h3]
  · rcases List.mem_cons.mp he with z | z
    · subst z
      refine .inl ?_
      cases q : H0 p with
      | none => rfl
      | some u =>
        obtain ⟨o', e'⟩ := s.lie.al p u q
        rw [h0] at e'
        cases e'
    · exact s1.own e z hm
end
section
variable {X : Cx} {Ff : Addr → Prop} {S : Sta} {D : AE} {o i e : Expr} {x : Str} {pos pos' p : Pos} {q : Addr} {kvs : List (NK × Ab)} {ky : NK} {R : Ab → Prop} {k : Nat}
/-- {} -/
theorem dx_nnew {U : Sta → Ab → Prop} (k : ∀ q, U ⟨S.rs, ⟨q, true, .nd []⟩ :: S.M, S.ρ⟩ (.at q)) : DX X Ff S (.Dict [] [] pos) U := fun G0 H0 =>
  pe_weak pe_nnew fun σ H Q ⟨G, s, kk⟩ p hp hs => by
    have n := Nxt.newM (o := NdO p []) s.ok hp
    exact kk _ (.ref p) (.at p) G _ (k p) rfl (s.pushM n ⟨[], upd_same, hs, rfl, trivial, fun x hx => absurd hx List.not_mem_nil⟩ (s.ok.gnone hp) hp) n.g
/-- d[k] = e -/
theorem ds_nput (hu : X.A.units + 64 < cLine) (he : DE X S.rs S.M S.ρ e R) (ho : DE X S.rs S.M S.ρ o (Is (.at q))) (hi : DE X S.rs S.M S.ρ i (Is (.d (nkD ky)))) (hM : S.M[k]? = some ⟨q, true, .nd kvs⟩) (hl : kvs.length ≤ 100000) (hn : ky ∉ kvs.map (·.1))
    (kk : ∀ a, R a → D.nx ⟨S.rs, S.M.set k ⟨q, true, .nd (kvs ++ [(ky, a)])⟩, S.ρ⟩) (hs : swapsWith e (some (.Subscript o i pos')) pos.line X.env = pure false := by rfl) : DS X Ff S (.Assign [.Subscript o i pos'] e pos) D := fun G0 H0 =>
  ps_weak (ps_nput hu ho hi he hs) fun De σ H ⟨G, s, nx, _⟩ => ⟨G, s.loc, s.ok, fun v a G1 H1 ra rep1 n1 => by
    have s1 := s.nxt n1
    refine ⟨G1, s1.loc, s1.ok, fun u z G2 H2 rz rep2 n2 => ?_⟩
    subst rz
    have rep2 : u = .ref q := rep2
    subst rep2
    have s2 := s1.nxt n2
    refine ⟨G2, s2.loc, s2.ok, fun y c G3 H3 rc rep3 n3 => ?_⟩
    subst rc
    have s3 := s2.nxt n3
    obtain ⟨_, _, xs, e1, e2, e3, e4, e5⟩ := s3.ok.m _ (List.mem_of_getElem? hM)
    have hlen : xs.length = kvs.length := by rw [← List.length_map (f := (·.1)), e3, List.length_map]
    refine ⟨G3, q, xs, ky, s3.ok.gh, rfl, e1, e5, by omega, rep3, by rw [e3]; exact hn, fun b eb => ?_⟩
    refine nx _ σ G3 _ (kk a ra) (s3.chg (u := NdO q (xs ++ [(ky, b, v)])) hM ⟨_, upd_same, e2, ?_, ?_, fun x hx => ?_⟩)
    · rw [List.map_append, List.map_append, e3]
      rfl
    · rw [List.map_append, List.map_append]
      exact RepAll.append e4 ⟨rep1.same (n2.g.trans n3.g), trivial⟩
    · rcases List.mem_append.mp hx with hx | hx
      · exact e5 x hx
      · rw [List.mem_singleton.mp hx]
        rw [← eb]
        exact rep3⟩
/-- such a dict of our own is handed back -/
theorem ds_retOwnN {i k : Nat} (h : S.ρ[i]? = some (some (.at q))) (hM : S.M[k]? = some ⟨q, true, .nd kvs⟩) (hF : ∀ b, Ff b → S.rs.F b) (r : D.rt S.rs [] (aRows X.K kvs)) (hN : X.N[i]? = some x := by rfl)
    (hv : Vis X.env.scope x := by first | exact Or.inl rfl | exact Or.inr (Or.inl rfl) | exact Or.inr (Or.inr rfl)) (hd : (x == ("__debug__" : Str)) = false := by decide) (hcd : (x == ("__classdict__" : Str)) = false := by decide) :
    DS X Ff S (.Return (some (.Name x p)) pos) D := fun G0 H0 => ps_weak (ps_ret (pe_var (i := i) hN hv hd hcd)) fun De σ H ⟨G, s, _, rt, _⟩ => by
  obtain ⟨v, e, rep⟩ := s.loc.get h
  have rep : v = .ref q := rep
  subst rep
  refine ⟨_, e, ?_⟩
  obtain ⟨g1, nf, xs, e1, e2, e3, e4, e5⟩ := s.ok.m _ (List.mem_of_getElem? hM)
  have g1 : G q = none := g1
  have e1 : H q = some (NdO q xs) := e1
  have h0 : H0.1 q = none := by
    rcases s.own _ (List.mem_of_getElem? hM) rfl with z | z
    · exact z
    · exact absurd (hF q z) nf
  have up : Same G (upd G q (NdO q xs)) := fun b u eb => by
    rw [upd_ne (ne_of_none eb g1)]
    exact eb
  refine rt S.rs [] (.ref q) (aRows X.K kvs) (upd G q (NdO q xs)) H r ⟨_, Same.refl _, q, rfl, xs, upd_same, e2, e3, e4.same up, fun x hx => dp_same up _ _ (e5 x hx)⟩ ⟨fun b u eb => ?_, fun b f => ?_, s.ok.i, fun e he => absurd he List.not_mem_nil, fun _ _ _ _ z => by simp at z⟩ ⟨s.lie.g.trans up, s.lie.h, s.lie.al, fun b u eb => ?_⟩ (fun e he => absurd he List.not_mem_nil)
  · by_cases hb : b = q
    · subst hb
      rw [upd_same] at eb
      rw [e1, eb]
    · rw [upd_ne hb] at eb
      exact s.ok.gh _ _ eb
  · rw [upd_ne (show b ≠ q from fun z => nf (show S.rs.F q from z ▸ f))]
    exact s.ok.sep b f
  · by_cases hb : b = q
    · subst hb
      exact .inr h0
    · rw [upd_ne hb] at eb
      exact s.lie.nw _ _ eb
end
end HW
/-! Own layer, part O: tables, what they do level by level, behind one another, undone. -/
namespace HW
open PySem PySem.Spec PyProof.Rows L2 RZ
theorem numN_at {v : Nat} : ∀ {n p : Nat} {ws : List Int}, (allT v n)[p]? = some ws → numN v ws = p
  | 0, p, ws, h => by
    have h : ([[]] : List (List Int))[p]? = some ws := h
    match p, h with
    | 0, h => cases h; rfl
    | p + 1, h => simp at h
  | n + 1, p, ws, h => by
    have hp : p < (allT v (n + 1)).length := (List.getElem?_eq_some_iff.mp h).1
    rw [allT_len, Nat.succ_mul, Nat.pow_add] at hp
    have two : 0 < 2 ^ v := Nat.pow_pos (by decide)
    have hi : p / 2 ^ v < (allT v n).length := by
      rw [allT_len]
      exact (Nat.div_lt_iff_lt_mul two).mpr hp
    have hx : p % 2 ^ v < 2 ^ v := Nat.mod_lt _ two
    obtain ⟨a, ha⟩ := getD_some hi
    have key := flatMap_at (f := fun a => (List.range (2 ^ v)).map fun x : Nat => a ++ [(x : Int)]) (L := 2 ^ v) (fun a _ => by rw [List.length_map, List.length_range]) ha hx
    have ep : p / 2 ^ v * 2 ^ v + p % 2 ^ v = p := Nat.div_add_mod' p (2 ^ v)
    rw [ep] at key
    have h : ((allT v n).flatMap _)[p]? = some ws := h
    rw [key, List.getElem?_map, List.getElem?_range hx] at h
    have h : a ++ [((p % 2 ^ v : Nat) : Int)] = ws := Option.some.inj h
    rw [← h, numN_snoc, numN_at ha, Int.toNat_natCast, ep]
def lowL (k : Nat) (ws : List Int) : List Int := ws.map fun x => x % 2 ^ k
theorem lowL_len (k : Nat) (ws : List Int) : (lowL k ws).length = ws.length := List.length_map ..
theorem lowL_in (k : Nat) (ws : List Int) : InW k (lowL k ws) := fun x hx => by
  obtain ⟨y, _, rfl⟩ := List.mem_map.mp hx
  exact ⟨Int.emod_nonneg _ (Int.ne_of_gt (two_pow_pos k)), Int.emod_lt_of_pos _ (two_pow_pos k)⟩
theorem lowL_id {k : Nat} {ws : List Int} (h : InW k ws) : lowL k ws = ws := by
  unfold lowL
  refine (List.map_congr_left fun x hx => ?_).trans (List.map_id ws)
  exact Int.emod_eq_of_lt (h x hx).1 (h x hx).2
theorem mod_mod {x : Int} {j k : Nat} (h : j ≤ k) : x % 2 ^ k % 2 ^ j = x % 2 ^ j := by
  have e : (2 : Int) ^ k = 2 ^ j * 2 ^ (k - j) := by rw [← Int.pow_add]; congr 1; omega
  exact Int.emod_emod_of_dvd x ⟨2 ^ (k - j), e⟩
theorem lowL_low {j k : Nat} (h : j ≤ k) (ws : List Int) : lowL j (lowL k ws) = lowL j ws := by
  unfold lowL
  rw [List.map_map]
  exact List.map_congr_left fun x _ => mod_mod h
theorem InW.up {j k : Nat} {ws : List Int} (h : InW j ws) (hk : j ≤ k) : InW k ws := fun x hx => by
  have := h x hx
  have e := Nat.pow_le_pow_right (n := 2) (by decide) hk
  have e1 := HW.pow_int j
  have e2 := HW.pow_int k
  omega
/-- alike one level further -/
theorem low_succ {k : Nat} {xs ys : List Int} (hl : xs.length = ys.length) : lowL (k + 1) xs = lowL (k + 1) ys ↔ lowL k xs = lowL k ys ∧ colI xs k = colI ys k := by
  constructor
  · intro h
    have h1 : lowL k xs = lowL k ys := by rw [← lowL_low (Nat.le_succ k) xs, h, lowL_low (Nat.le_succ k)]
    refine ⟨h1, ?_⟩
    have col : ∀ (xs ys : List Int), xs.length = ys.length → lowL (k + 1) xs = lowL (k + 1) ys → colI xs k = colI ys k := by
      intro xs
      induction xs with
      | nil => intro ys hl _; rw [List.length_eq_zero_iff.mp hl.symm]
      | cons x xs ih =>
        intro ys hl h
        match ys, hl, h with
        | y :: ys, hl, h =>
          unfold lowL at h
          rw [List.map_cons, List.map_cons] at h
          obtain ⟨e1, e2⟩ := List.cons.inj h
          have b : bitI x k = bitI y k := by
            have p := two_pow_pos k
            have m : x % 2 ^ k = y % 2 ^ k := by rw [← mod_mod (Nat.le_succ k) (x := x), e1, mod_mod (Nat.le_succ k)]
            rw [bitI_mod, bitI_mod, m] at e1
            exact Int.eq_of_mul_eq_mul_right (Int.ne_of_gt p) (Int.add_left_cancel e1)
          show bitI x k + 2 * colI xs k = bitI y k + 2 * colI ys k
          rw [b, ih ys (Nat.succ.inj hl) e2]
    exact col xs ys hl h
  · rintro ⟨h1, h2⟩
    have back : ∀ (xs ys : List Int), xs.length = ys.length → lowL k xs = lowL k ys → colI xs k = colI ys k → lowL (k + 1) xs = lowL (k + 1) ys := by
      intro xs
      induction xs with
      | nil => intro ys hl _ _; rw [List.length_eq_zero_iff.mp hl.symm]
      | cons x xs ih =>
        intro ys hl h c
        match ys, hl, h, c with
        | y :: ys, hl, h, c =>
          unfold lowL at h
          rw [List.map_cons, List.map_cons] at h
          obtain ⟨e1, e2⟩ := List.cons.inj h
          have c : bitI x k + 2 * colI xs k = bitI y k + 2 * colI ys k := c
          have b1 := bitI_range x k
          have b2 := bitI_range y k
          have eb : bitI x k = bitI y k := by omega
          have ec : colI xs k = colI ys k := by omega
          show x % 2 ^ (k + 1) :: lowL (k + 1) xs = y % 2 ^ (k + 1) :: lowL (k + 1) ys
          rw [bitI_mod, bitI_mod, e1, eb, ih ys (Nat.succ.inj hl) e2 ec]
    exact back xs ys hl h1 h2
theorem ext_bits {x y : Int} {n : Nat} (hx : 0 ≤ x ∧ x < 2 ^ n) (hy : 0 ≤ y ∧ y < 2 ^ n) (h : ∀ i, i < n → bitI x i = bitI y i) : x = y := by
  have key : ∀ i, i ≤ n → x % 2 ^ i = y % 2 ^ i := by
    intro i
    induction i with
    | zero => intro _; rw [Int.pow_zero, Int.emod_one, Int.emod_one]
    | succ i ih => intro hi; rw [bitI_mod, bitI_mod, ih (by omega), h i (by omega)]
  have := key n (Nat.le_refl _)
  rwa [Int.emod_eq_of_lt hx.1 hx.2, Int.emod_eq_of_lt hy.1 hy.2] at this
theorem lowUp_get {c : Int} {k i : Nat} {low : List Int} {x : Int} (h : low[i]? = some x) : (lowUp c k low)[i]? = some (x + bitI c i * 2 ^ k) := by
  have hi : i < low.length := (List.getElem?_eq_some_iff.mp h).1
  unfold lowUp
  rw [List.getElem?_map, List.getElem?_range hi]
  show some (low.getD i 0 + _) = _
  rw [getD_of h]
theorem bitI_up {x b : Int} {k : Nat} (hx : 0 ≤ x ∧ x < 2 ^ k) (hb : 0 ≤ b ∧ b < 2) : bitI (x + b * 2 ^ k) k = b ∧ (x + b * 2 ^ k) % 2 ^ k = x := by
  have p := two_pow_pos k
  constructor
  · unfold bitI
    rw [Int.add_mul_ediv_right _ _ (Int.ne_of_gt p), Int.ediv_eq_zero_of_lt hx.1 hx.2]
    omega
  · rw [Int.add_mul_emod_self_right, Int.emod_eq_of_lt hx.1 hx.2]
theorem lowUp_low {c : Int} {k : Nat} {low : List Int} (h : InW k low) : lowL k (lowUp c k low) = low := by
  refine List.ext_getElem (by rw [lowL_len, lowUp_len]) fun i h1 h2 => ?_
  have e := List.getElem?_eq_getElem h2
  have e1 := lowUp_get (c := c) (k := k) e
  have e2 : (lowL k (lowUp c k low))[i]? = some ((low[i] + bitI c i * 2 ^ k) % 2 ^ k) := by
    unfold lowL
    rw [List.getElem?_map, e1]
    rfl
  rw [(bitI_up (h _ (List.getElem_mem h2)) (bitI_range c i)).2] at e2
  exact Option.some.inj ((List.getElem?_eq_getElem h1).symm.trans e2)
theorem lowUp_col {c : Int} {k : Nat} {low : List Int} (h : InW k low) (hc : 0 ≤ c ∧ c < 2 ^ low.length) : colI (lowUp c k low) k = c := by
  have r := colI_range k (lowUp c k low)
  rw [lowUp_len] at r
  refine ext_bits r hc fun i hi => ?_
  have e := List.getElem?_eq_getElem hi
  rw [bitI_col k _ i _ (lowUp_get e), (bitI_up (h _ (List.getElem_mem hi)) (bitI_range c i)).1]
/-- a state is its low part and its column, one level up -/
theorem low_up {k : Nat} (ws : List Int) : lowL (k + 1) ws = lowUp (colI ws k) k (lowL k ws) := by
  refine List.ext_getElem (by rw [lowL_len, lowUp_len, lowL_len]) fun i h1 h2 => ?_
  rw [lowL_len] at h1
  have e := List.getElem?_eq_getElem h1
  have e1 : (lowL k ws)[i]? = some (ws[i] % 2 ^ k) := by
    unfold lowL
    rw [List.getElem?_map, e]
    rfl
  have e2 : (lowL (k + 1) ws)[i]? = some (ws[i] % 2 ^ (k + 1)) := by
    unfold lowL
    rw [List.getElem?_map, e]
    rfl
  have e3 := lowUp_get (c := colI ws k) (k := k) e1
  rw [bitI_col k ws i _ e, ← bitI_mod] at e3
  exact Option.some.inj ((List.getElem?_eq_getElem (by rw [lowL_len]; exact h1)).symm.trans (e2.trans (e3.symm.trans (List.getElem?_eq_getElem h2))))

/-! ### images -/
section
variable {v n : Nat} {ts us : List Nat} {xs ys : List Int}
theorem img_at (ht : IsP (2 ^ (n * v)) ts) (hn : xs.length = n) (h : InW v xs) : ts[numN v xs]? = some (ts.getD (numN v xs) 0) ∧ (allT v n)[ts.getD (numN v xs) 0]? = some (imgT v n ts xs) := by
  obtain ⟨p, h1, h2⟩ := imgT_at hn h ht.len ht.lt
  rw [getD_of h1]
  exact ⟨h1, h2⟩
theorem img_in (ht : IsP (2 ^ (n * v)) ts) (hn : xs.length = n) (h : InW v xs) : (imgT v n ts xs).length = n ∧ InW v (imgT v n ts xs) := allT_mem (List.mem_of_getElem? (img_at ht hn h).2)
theorem img_num (ht : IsP (2 ^ (n * v)) ts) (hn : xs.length = n) (h : InW v xs) : numN v (imgT v n ts xs) = ts.getD (numN v xs) 0 := numN_at (img_at ht hn h).2
theorem num_inj (hx : xs.length = n) (h : InW v xs) (hy : ys.length = n) (h2 : InW v ys) (e : numN v xs = numN v ys) : xs = ys := by
  have a := allT_at n xs hx h
  have b := allT_at n ys hy h2
  rw [e, b] at a
  exact (Option.some.inj a).symm
theorem img_thnP (ht : IsP (2 ^ (n * v)) ts) (hn : xs.length = n) (h : InW v xs) : imgT v n (thnP ts us) xs = imgT v n us (imgT v n ts xs) := by
  have lt : numN v xs < ts.length := by rw [ht.len]; exact numN_lt hn h
  unfold imgT
  rw [thnP_get lt]
  have := img_num ht hn h
  unfold imgT at this
  rw [this]
theorem img_inj (ht : IsP (2 ^ (n * v)) ts) (hx : xs.length = n) (h : InW v xs) (hy : ys.length = n) (h2 : InW v ys) (e : imgT v n ts xs = imgT v n ts ys) : xs = ys := by
  refine num_inj hx h hy h2 (ht.inj (numN_lt hx h) (numN_lt hy h2) ?_)
  rw [← img_num ht hx h, ← img_num ht hy h2, e]
theorem img_range (hn : xs.length = n) (h : InW v xs) : imgT v n (List.range (2 ^ (n * v))) xs = xs := by
  have r := IsP.range (2 ^ (n * v))
  have := img_num r hn h
  rw [List.getD_eq_getElem?_getD, List.getElem?_range (numN_lt hn h)] at this
  have i := img_in r hn h
  exact num_inj i.1 i.2 hn h this
/-- low bits go by themselves -/
def Tri (v n : Nat) (ts : List Nat) : Prop := ∀ m, m ≤ v → ∀ xs ys : List Int, xs.length = n → ys.length = n → InW v xs → InW v ys → lowL m xs = lowL m ys → lowL m (imgT v n ts xs) = lowL m (imgT v n ts ys)
theorem Tri.thnP (a : Tri v n ts) (b : Tri v n us) (ht : IsP (2 ^ (n * v)) ts) : Tri v n (thnP ts us) := fun m hm xs ys h1 h2 h3 h4 e => by
  rw [img_thnP ht h1 h3, img_thnP ht h2 h4]
  have i := img_in ht h1 h3
  have j := img_in ht h2 h4
  exact b m hm _ _ i.1 j.1 i.2 j.2 (a m hm xs ys h1 h2 h3 h4 e)
theorem Tri.range : Tri v n (List.range (2 ^ (n * v))) := fun m hm xs ys h1 h2 h3 h4 e => by rw [img_range h1 h3, img_range h2 h4, e]

/-! ### undone -/
theorem backL_get {N : Nat} {ps : List Nat} (hp : IsP N ps) : ∀ i, i ≤ N → ∀ j, j < i → (backL ps i).getD (ps.getD j 0) 0 = j
  | 0, _, j, h => absurd h (Nat.not_lt_zero _)
  | i + 1, hi, j, h => by
    show ((backL ps i).set (ps.getD i 0) i).getD (ps.getD j 0) 0 = j
    by_cases z : j = i
    · subst z
      rw [List.getD_eq_getElem?_getD, List.getElem?_set_self (by rw [backL_len, hp.len]; exact hp.get (by omega))]
      rfl
    · rw [List.getD_eq_getElem?_getD, List.getElem?_set_ne (fun q => z (hp.inj (by omega) (by omega) q).symm), ← List.getD_eq_getElem?_getD]
      exact backL_get hp i (by omega) j (by omega)
theorem thnP_back {N : Nat} {ps : List Nat} (hp : IsP N ps) : thnP ps (backL ps N) = List.range N := by
  refine ext_getD (by rw [thnP_len, hp.len, List.length_range]) fun i hi => ?_
  rw [thnP_len] at hi
  have hi2 : i < N := by rw [← hp.len]; exact hi
  rw [thnP_get hi, backL_get hp N (Nat.le_refl _) i hi2, List.getD_eq_getElem?_getD, List.getElem?_range hi2]
  rfl
theorem IsP.back {N : Nat} {ps : List Nat} (hp : IsP N ps) : IsP N (backL ps N) := by
  have at_ : ∀ g, g < N → ∃ j, j < N ∧ ps.getD j 0 = g ∧ (backL ps N).getD g 0 = j := fun g hg => by
    obtain ⟨j, hj, e⟩ := hp.at hg
    exact ⟨j, hj, e, by rw [← e]; exact backL_get hp N (Nat.le_refl _) j hj⟩
  have ln : (backL ps N).length = N := (backL_len ps N).trans hp.len
  refine ⟨ln, ?_, fun x hx => ?_⟩
  · have e : backL ps N = (List.range N).map fun g => (backL ps N).getD g 0 := by
      refine ext_getD (by rw [ln, List.length_map, List.length_range]) fun i hi => ?_
      rw [ln] at hi
      rw [List.getD_eq_getElem?_getD (l := (List.range N).map _), List.getElem?_map, List.getElem?_range hi]
      rfl
    rw [e]
    refine nodup_map_of fun g h hg hh q => ?_
    obtain ⟨j, _, e1, e2⟩ := at_ g hg
    obtain ⟨j', _, e3, e4⟩ := at_ h hh
    rw [e2, e4] at q
    rw [← e1, ← e3, q]
  · obtain ⟨g, hg⟩ := List.mem_iff_getElem?.mp hx
    have lt := (List.getElem?_eq_some_iff.mp hg).1
    obtain ⟨j, hj, _, e⟩ := at_ g (by rw [← ln]; exact lt)
    rw [getD_of hg] at e
    rw [e]
    exact hj
theorem back_thnP {N : Nat} {ps : List Nat} (hp : IsP N ps) : thnP (backL ps N) ps = List.range N := by
  refine ext_getD (by rw [thnP_len, hp.back.len, List.length_range]) fun i hi => ?_
  rw [thnP_len] at hi
  have hi2 : i < N := by rw [← hp.back.len]; exact hi
  obtain ⟨j, hj, e⟩ := hp.at hi2
  rw [thnP_get hi, ← e, backL_get hp N (Nat.le_refl _) j hj, e, List.getD_eq_getElem?_getD, List.getElem?_range hi2]
  rfl
theorem nodup_of {α : Type} [DecidableEq α] : ∀ {l r : List α}, r.Nodup → (∀ x ∈ r, x ∈ l) → l.length ≤ r.length → l.Nodup
  | [], _, _, _, _ => List.nodup_nil
  | x :: l, r, nd, sub, ln => by
    have le : ∀ {l r : List α}, r.Nodup → (∀ x ∈ r, x ∈ l) → r.length ≤ l.length := by
      intro l
      induction l with
      | nil =>
        intro r _ s
        cases r with
        | nil => exact Nat.le_refl _
        | cons y r => exact absurd (s y List.mem_cons_self) List.not_mem_nil
      | cons x l ih =>
        intro r nd s
        have := ih (r := r.erase x) (nd.erase x) fun y hy => by
          have hy' := (List.Nodup.mem_erase_iff nd).mp hy
          rcases List.mem_cons.mp (s y hy'.2) with z | z
          · exact absurd z hy'.1
          · exact z
        have h2 := List.length_erase_of_mem (a := x) (l := r)
        by_cases hx : x ∈ r
        · have := h2 hx
          have h3 : 0 < r.length := List.length_pos_of_mem hx
          rw [List.length_cons]
          omega
        · rw [List.erase_of_not_mem hx] at this
          rw [List.length_cons]
          omega
    have hx : x ∉ l := fun z => by
      have := le nd (l := l) fun y hy => by
        rcases List.mem_cons.mp (sub y hy) with q | q
        · rw [q]; exact z
        · exact q
      rw [List.length_cons] at ln
      omega
    refine List.nodup_cons.mpr ⟨hx, nodup_of (r := r.erase x) (nd.erase x) (fun y hy => ?_) ?_⟩
    · have hy' := (List.Nodup.mem_erase_iff nd).mp hy
      rcases List.mem_cons.mp (sub y hy'.2) with z | z
      · exact absurd z hy'.1
      · exact z
    · have h2 := List.length_erase_of_mem (a := x) (l := r)
      rw [List.length_cons] at ln
      by_cases hxr : x ∈ r
      · have := h2 hxr
        omega
      · have h3 := le (l := l) (r := r) nd fun y hy => by
          rcases List.mem_cons.mp (sub y hy) with z | z
          · exact absurd (z ▸ hy) hxr
          · exact z
        omega
theorem nodup_inj {α β : Type} {f : α → β} {l : List α} (nd : (l.map f).Nodup) {a b : α} (ha : a ∈ l) (hb : b ∈ l) (e : f a = f b) : a = b := by
  obtain ⟨i, hi⟩ := List.mem_iff_getElem?.mp ha
  obtain ⟨j, hj⟩ := List.mem_iff_getElem?.mp hb
  obtain ⟨hi1, hi2⟩ := List.getElem?_eq_some_iff.mp hi
  obtain ⟨hj1, hj2⟩ := List.getElem?_eq_some_iff.mp hj
  have pw := List.pairwise_iff_getElem.mp nd
  rcases Nat.lt_trichotomy i j with q | q | q
  · have := pw i j (by rw [List.length_map]; exact hi1) (by rw [List.length_map]; exact hj1) q
    rw [List.getElem_map, List.getElem_map, hi2, hj2] at this
    exact absurd e this
  · subst q
    rw [← hi2, ← hj2]
  · have := pw j i (by rw [List.length_map]; exact hj1) (by rw [List.length_map]; exact hi1) q
    rw [List.getElem_map, List.getElem_map, hi2, hj2] at this
    exact absurd e.symm this
theorem allT_nd (v n : Nat) : (allT v n).Nodup := by
  refine List.pairwise_iff_getElem.mpr fun i j hi hj hij e => ?_
  have a := numN_at (List.getElem?_eq_getElem hi)
  have b := numN_at (List.getElem?_eq_getElem hj)
  rw [e, b] at a
  omega
theorem allT_in (hn : xs.length = n) (h : InW v xs) : xs ∈ allT v n := List.mem_of_getElem? (allT_at n xs hn h)
/-- what is unlike stays so -/
theorem Tri.inj (a : Tri v n ts) (ht : IsP (2 ^ (n * v)) ts) {m : Nat} (hm : m ≤ v) (hx : xs.length = n) (hy : ys.length = n) (h : InW v xs) (h2 : InW v ys) (e : lowL m (imgT v n ts xs) = lowL m (imgT v n ts ys)) : lowL m xs = lowL m ys := by
  have nd : ((allT m n).map fun z => lowL m (imgT v n ts z)).Nodup := by
    refine nodup_of (allT_nd m n) (fun z hz => ?_) (by rw [List.length_map]; exact Nat.le_refl _)
    have hz' := allT_mem hz
    have zv := hz'.2.up hm
    -- z comes from somewhere
    obtain ⟨p, hp, ep⟩ := ht.at (numN_lt hz'.1 zv)
    have hp2 : p < (allT v n).length := by rw [allT_len]; exact hp
    obtain ⟨x, hx⟩ := getD_some hp2
    have hx' := allT_mem (List.mem_of_getElem? hx)
    have ex : imgT v n ts x = z := by
      have i := img_in ht hx'.1 hx'.2
      refine num_inj i.1 i.2 hz'.1 zv ?_
      rw [img_num ht hx'.1 hx'.2, numN_at hx, ep]
    refine List.mem_map.mpr ⟨lowL m x, allT_in ((lowL_len m x).trans hx'.1) (lowL_in m x), ?_⟩
    show lowL m (imgT v n ts (lowL m x)) = z
    rw [a m hm (lowL m x) x ((lowL_len m x).trans hx'.1) hx'.1 ((lowL_in m x).up hm) hx'.2 (lowL_low (Nat.le_refl m) x), ex, lowL_id hz'.2]
  refine nodup_inj nd (allT_in ((lowL_len m xs).trans hx) (lowL_in m xs)) (allT_in ((lowL_len m ys).trans hy) (lowL_in m ys)) ?_
  show lowL m (imgT v n ts (lowL m xs)) = lowL m (imgT v n ts (lowL m ys))
  rw [a m hm (lowL m xs) xs ((lowL_len m xs).trans hx) hx ((lowL_in m xs).up hm) h (lowL_low (Nat.le_refl m) xs), a m hm (lowL m ys) ys ((lowL_len m ys).trans hy) hy ((lowL_in m ys).up hm) h2 (lowL_low (Nat.le_refl m) ys), e]
theorem Tri.back (a : Tri v n ts) (ht : IsP (2 ^ (n * v)) ts) : Tri v n (backL ts (2 ^ (n * v))) := fun m hm xs ys h1 h2 h3 h4 e => by
  have i := img_in ht.back h1 h3
  have j := img_in ht.back h2 h4
  refine a.inj ht hm i.1 j.1 i.2 j.2 ?_
  rw [← img_thnP ht.back h1 h3, ← img_thnP ht.back h2 h4, back_thnP ht, img_range h1 h3, img_range h2 h4, e]

/-! ### columns moved -/
def movN (v n : Nat) (ts : List Nat) (k : Nat) (low : List Int) : List Nat := (List.range (2 ^ n)).map fun c : Nat => (colI (imgT v n ts (lowUp (c : Int) k low)) k).toNat
theorem mov_nI (v n : Nat) (ts : List Nat) (k : Nat) (low : List Int) : movesL v n ts k low = nI (movN v n ts k low) := by
  unfold movesL nI movN
  rw [List.map_map]
  refine List.map_congr_left fun c _ => ?_
  show _ = Int.ofNat (Int.toNat _)
  rw [Int.ofNat_eq_natCast, Int.toNat_of_nonneg (colI_range k _).1]
theorem movN_len (v n : Nat) (ts : List Nat) (k : Nat) (low : List Int) : (movN v n ts k low).length = 2 ^ n := by
  unfold movN
  rw [List.length_map, List.length_range]
theorem movN_get {k c : Nat} {low : List Int} (h : c < 2 ^ n) : (movN v n ts k low).getD c 0 = (colI (imgT v n ts (lowUp (c : Int) k low)) k).toNat := by
  unfold movN
  rw [List.getD_eq_getElem?_getD, List.getElem?_map, List.getElem?_range h]
  rfl
theorem cast_lt {c n : Nat} (h : c < 2 ^ n) : 0 ≤ (c : Int) ∧ (c : Int) < 2 ^ n := ⟨Int.natCast_nonneg c, by have := HW.pow_int n; omega⟩
theorem col_lt {k : Nat} (h : xs.length = n) : (colI xs k).toNat < 2 ^ n ∧ (((colI xs k).toNat : Nat) : Int) = colI xs k := by
  have r := colI_range k xs
  rw [h] at r
  have := HW.pow_int n
  exact ⟨by omega, Int.toNat_of_nonneg r.1⟩
theorem mov_isP (a : Tri v n ts) (ht : IsP (2 ^ (n * v)) ts) {k : Nat} {low : List Int} (hl : low.length = n) (hw : InW k low) (hk : k < v) : IsP (2 ^ n) (movN v n ts k low) := by
  have st : ∀ c : Nat, (lowUp (c : Int) k low).length = n ∧ InW v (lowUp (c : Int) k low) := fun c => ⟨(lowUp_len _ k low).trans hl, lowUp_in hw hk⟩
  refine ⟨movN_len v n ts k low, nodup_map_of fun c d hc hd e => ?_, fun x hx => ?_⟩
  · have i := img_in ht (st c).1 (st c).2
    have j := img_in ht (st d).1 (st d).2
    have e' : colI (imgT v n ts (lowUp (c : Int) k low)) k = colI (imgT v n ts (lowUp (d : Int) k low)) k := by
      rw [← (col_lt (k := k) i.1).2, ← (col_lt (k := k) j.1).2, e]
    have e1 := (low_succ (k := k) (i.1.trans j.1.symm)).mpr ⟨a k (Nat.le_of_lt hk) _ _ (st c).1 (st d).1 (st c).2 (st d).2 (by rw [lowUp_low hw, lowUp_low hw]), e'⟩
    have e2 := a.inj ht hk (st c).1 (st d).1 (st c).2 (st d).2 e1
    have e3 := ((low_succ (k := k) ((st c).1.trans (st d).1.symm)).mp e2).2
    rw [lowUp_col hw (by rw [hl]; exact cast_lt hc), lowUp_col hw (by rw [hl]; exact cast_lt hd)] at e3
    omega
  · unfold movN at hx
    obtain ⟨c, hc, rfl⟩ := List.mem_map.mp hx
    exact (col_lt (img_in ht (st c).1 (st c).2).1).1
/-- THE COLUMNS of two tables one behind the other -/
theorem mov_thnP (a : Tri v n ts) (b : Tri v n us) (ht : IsP (2 ^ (n * v)) ts) (hu : IsP (2 ^ (n * v)) us) {k : Nat} {low : List Int} (hl : low.length = n) (hw : InW k low) (hk : k < v) :
    movN v n (thnP ts us) k low = thnP (movN v n ts k low) (movN v n us k (lowL k (imgT v n ts low))) := by
  refine ext_getD (by rw [movN_len, thnP_len, movN_len]) fun c hc => ?_
  rw [movN_len] at hc
  have st : (lowUp (c : Int) k low).length = n ∧ InW v (lowUp (c : Int) k low) := ⟨(lowUp_len _ k low).trans hl, lowUp_in hw hk⟩
  have i := img_in ht st.1 st.2
  have i0 := img_in ht hl (hw.up (Nat.le_of_lt hk))
  have cl := col_lt (k := k) i.1
  have gl : (lowL k (imgT v n ts low)).length = n := (lowL_len _ _).trans i0.1
  rw [movN_get hc, thnP_get (by rw [movN_len]; exact hc), movN_get hc, movN_get cl.1, img_thnP ht st.1 st.2, cl.2]
  have e0 : lowL k (imgT v n ts (lowUp (c : Int) k low)) = lowL k (imgT v n ts low) := a k (Nat.le_of_lt hk) _ _ st.1 hl st.2 (hw.up (Nat.le_of_lt hk)) (by rw [lowUp_low hw, lowL_id hw])
  have e1 := low_up (k := k) (imgT v n ts (lowUp (c : Int) k low))
  rw [e0] at e1
  generalize imgT v n ts (lowUp (c : Int) k low) = y at *
  have u : (lowUp (colI y k) k (lowL k (imgT v n ts low))).length = n ∧ InW v (lowUp (colI y k) k (lowL k (imgT v n ts low))) := ⟨(lowUp_len _ _ _).trans gl, lowUp_in (lowL_in k _) hk⟩
  have e2 : lowL (k + 1) (lowUp (colI y k) k (lowL k (imgT v n ts low))) = lowL (k + 1) y := by rw [← e1, lowL_low (Nat.le_refl _)]
  have e3 := b (k + 1) hk _ _ u.1 i.1 u.2 i.2 e2
  rw [← ((low_succ (k := k) ((img_in hu u.1 u.2).1.trans (img_in hu i.1 i.2).1.symm)).mp e3).2]
end
end HW
/-! Own layer, part P: tables of a map of states; deeds' tables, laid tables. -/
namespace HW
open PySem PySem.Spec PyProof.Rows L2 RZ
theorem nodup_map_mem {α β : Type} {f : α → β} {l : List α} (nd : l.Nodup) (h : ∀ a ∈ l, ∀ b ∈ l, f a = f b → a = b) : (l.map f).Nodup := by
  refine List.pairwise_iff_getElem.mpr fun i j hi hj hij e => ?_
  rw [List.length_map] at hi hj
  rw [List.getElem_map, List.getElem_map] at e
  exact List.pairwise_iff_getElem.mp nd i j hi hj hij (h _ (List.getElem_mem hi) _ (List.getElem_mem hj) e)
section
variable {v n k : Nat} {low : List Int}
theorem mov_range (hl : low.length = n) (hw : InW k low) (hk : k < v) : movN v n (List.range (2 ^ (n * v))) k low = List.range (2 ^ n) := by
  refine ext_getD (by rw [movN_len, List.length_range]) fun c hc => ?_
  rw [movN_len] at hc
  rw [movN_get hc, img_range ((lowUp_len _ k low).trans hl) (lowUp_in hw hk), lowUp_col hw (by rw [hl]; exact cast_lt hc), List.getD_eq_getElem?_getD, List.getElem?_range hc, Int.toNat_natCast]
  rfl
/-- THE SIGNS of two tables one behind the other -/
theorem sign_thnP {ts us : List Nat} (a : Tri v n ts) (b : Tri v n us) (ht : IsP (2 ^ (n * v)) ts) (hu : IsP (2 ^ (n * v)) us) (hl : low.length = n) (hw : InW k low) (hk : k < v) :
    par (movN v n (thnP ts us) k low) = (par (movN v n ts k low) + par (movN v n us k (lowL k (imgT v n ts low)))) % 2 := by
  rw [mov_thnP a b ht hu hl hw hk]
  exact par_thnP (mov_isP a ht hl hw hk) (mov_isP b hu ((lowL_len _ _).trans (img_in ht hl (hw.up (Nat.le_of_lt hk))).1) (lowL_in k _) hk)
theorem sign_back {ts : List Nat} (a : Tri v n ts) (ht : IsP (2 ^ (n * v)) ts) (hl : low.length = n) (hw : InW k low) (hk : k < v) :
    par (movN v n (backL ts (2 ^ (n * v))) k (lowL k (imgT v n ts low))) = par (movN v n ts k low) := by
  have e := sign_thnP a (a.back ht) ht ht.back hl hw hk
  rw [thnP_back ht, mov_range hl hw hk, par_range] at e
  have := par_lt (movN v n ts k low)
  have := par_lt (movN v n (backL ts (2 ^ (n * v))) k (lowL k (imgT v n ts low)))
  omega

/-! ### the table of a map of states -/
def tabOf (v n : Nat) (F : List Int → List Int) : List Nat := (allT v n).map fun x => numN v (F x)
theorem tabOf_len (F : List Int → List Int) : (tabOf v n F).length = 2 ^ (n * v) := (List.length_map ..).trans (allT_len v n)
structure MapOk (v n : Nat) (F : List Int → List Int) : Prop where
  inn : ∀ x, x.length = n → InW v x → (F x).length = n ∧ InW v (F x)
  inj : ∀ x y, x.length = n → InW v x → y.length = n → InW v y → F x = F y → x = y
  tri : ∀ m, m ≤ v → ∀ x y, x.length = n → y.length = n → InW v x → InW v y → lowL m x = lowL m y → lowL m (F x) = lowL m (F y)
variable {F : List Int → List Int}
theorem tabOf_isP (h : MapOk v n F) : IsP (2 ^ (n * v)) (tabOf v n F) := by
  refine ⟨tabOf_len F, nodup_map_mem (allT_nd v n) fun a ha b hb e => ?_, fun x hx => ?_⟩
  · have a1 := allT_mem ha
    have b1 := allT_mem hb
    have a2 := h.inn a a1.1 a1.2
    have b2 := h.inn b b1.1 b1.2
    exact h.inj a b a1.1 a1.2 b1.1 b1.2 (num_inj a2.1 a2.2 b2.1 b2.2 e)
  · obtain ⟨a, ha, rfl⟩ := List.mem_map.mp hx
    have a1 := allT_mem ha
    have a2 := h.inn a a1.1 a1.2
    exact numN_lt a2.1 a2.2
theorem tabOf_img (h : MapOk v n F) {x : List Int} (hn : x.length = n) (hw : InW v x) : imgT v n (tabOf v n F) x = F x := by
  have a := allT_at n x hn hw
  have e : (tabOf v n F)[numN v x]? = some (numN v (F x)) := by
    unfold tabOf
    rw [List.getElem?_map, a]
    rfl
  have i := h.inn x hn hw
  unfold imgT
  rw [getD_of e, getD_of (allT_at n (F x) i.1 i.2)]
theorem tabOf_tri (h : MapOk v n F) : Tri v n (tabOf v n F) := fun m hm x y h1 h2 h3 h4 e => by
  rw [tabOf_img h h1 h3, tabOf_img h h2 h4]
  exact h.tri m hm x y h1 h2 h3 h4 e

/-! ### deeds -/
theorem lowL_getD (m : Nat) (ws : List Int) (i : Nat) : (lowL m ws).getD i 0 = ws.getD i 0 % 2 ^ m := by
  unfold lowL
  rw [List.getD_eq_getElem?_getD, List.getD_eq_getElem?_getD, List.getElem?_map]
  cases ws[i]? with
  | none => show (0 : Int) = 0 % _; rw [Int.zero_emod]
  | some x => rfl
theorem toNat_mod {x : Int} (h : 0 ≤ x) (m : Nat) : (x % 2 ^ m).toNat = x.toNat % 2 ^ m := by
  obtain ⟨a, rfl⟩ := Int.eq_ofNat_of_zero_le h
  rw [← HW.pow_int, Int.toNat_natCast, ← Int.natCast_emod, Int.toNat_natCast]
theorem bx_mod {x y : Int} (hx : 0 ≤ x) (hy : 0 ≤ y) (m : Nat) : bx x y % 2 ^ m = bx (x % 2 ^ m) (y % 2 ^ m) := by
  unfold bx
  rw [toNat_mod hx, toNat_mod hy, ← Nat.xor_mod_two_pow, ← HW.pow_int, Int.natCast_emod]
theorem ba_mod {x y : Int} (hx : 0 ≤ x) (hy : 0 ≤ y) (m : Nat) : ba x y % 2 ^ m = ba (x % 2 ^ m) (y % 2 ^ m) := by
  unfold ba
  rw [toNat_mod hx, toNat_mod hy, ← Nat.and_mod_two_pow, ← HW.pow_int, Int.natCast_emod]
theorem ba_nn (x y : Int) : 0 ≤ ba x y := Int.natCast_nonneg _
theorem new_low {m : Nat} (hm : m ≤ v) {ws : List Int} (hw : InW v ws) (d : Dd) : d.new v 1 ws % 2 ^ m = d.new m 1 (lowL m ws) := by
  cases d with
  | add i j =>
    show (ws.getD i 0 + 1 * ws.getD j 0) % 2 ^ v % 2 ^ m = ((lowL m ws).getD i 0 + 1 * (lowL m ws).getD j 0) % 2 ^ m
    rw [mod_mod hm, lowL_getD, lowL_getD, Int.one_mul, Int.one_mul, Int.add_emod]
  | one i =>
    show (ws.getD i 0 + 1) % 2 ^ v % 2 ^ m = ((lowL m ws).getD i 0 + 1) % 2 ^ m
    rw [mod_mod hm, lowL_getD, Int.emod_add_emod]
  | xor i j =>
    show bx _ _ % _ = bx _ _
    rw [bx_mod (hw.get i).1 (hw.get j).1, lowL_getD, lowL_getD]
  | and i j l =>
    show bx _ (ba _ _) % _ = bx _ (ba _ _)
    rw [bx_mod (hw.get i).1 (ba_nn _ _), ba_mod (hw.get j).1 (hw.get l).1, lowL_getD, lowL_getD, lowL_getD]
theorem act_low {m : Nat} (hm : m ≤ v) {ws : List Int} (hw : InW v ws) (d : Dd) : lowL m (d.act v 1 ws) = d.act m 1 (lowL m ws) := by
  unfold Dd.act
  rw [← new_low hm hw d]
  unfold lowL
  rw [List.map_set]
theorem deed_map {d : Dd} (hd : d.Ok n) : MapOk v n (d.act v 1) where
  inn := fun x hn hw => ⟨(act_len d).trans hn, hw.act d⟩
  inj := fun x y hn hw hn2 hw2 e => by rw [← act_back (s := 1) hd hn hw, e, act_back (s := 1) hd hn2 hw2]
  tri := fun m hm x y hn hn2 hw hw2 e => by rw [act_low hm hw, act_low hm hw2, e]
/-- where a column's bit at the place i is turned -/
def flipL (n i : Nat) (g : Nat → Bool) : List Nat := (List.range (2 ^ n)).map fun c => if g c then c ^^^ 2 ^ i else c
def Dd.g (k : Nat) (low : List Int) : Dd → Nat → Bool
  | .add i j => fun c => (c.testBit j) ^^ decide (2 ^ k ≤ low.getD i 0 + low.getD j 0)
  | .xor i j => fun c => c.testBit j
  | .and i j l => fun c => c.testBit j && c.testBit l
  | .one i => fun c => decide (2 ^ k ≤ low.getD i 0 + 1)
theorem bitI_emod {z : Int} (hk : k < v) : bitI (z % 2 ^ v) k = bitI z k := by
  have p := two_pow_pos k
  have a := bitI_mod (z % 2 ^ v) k
  have b := bitI_mod z k
  rw [mod_mod (Nat.le_of_lt hk), mod_mod hk, b] at a
  exact (Int.eq_of_mul_eq_mul_right (Int.ne_of_gt p) (Int.add_left_cancel a)).symm
theorem lowUp_getD {c : Int} {i : Nat} (h : i < low.length) : (lowUp c k low).getD i 0 = low.getD i 0 + bitI c i * 2 ^ k := by
  have e := List.getElem?_eq_getElem h
  rw [getD_of (lowUp_get e), getD_of e]
/-- the bit that the deed leaves -/
theorem new_bit {d : Dd} (hd : d.Ok n) (hl : low.length = n) (hw : InW k low) (hk : k < v) (c : Nat) : bitI (d.new v 1 (lowUp (c : Int) k low)) k = if d.g k low c then 1 - bitI (c : Int) d.pl else bitI (c : Int) d.pl := by
  have p := two_pow_pos k
  have bit : ∀ i, i < n → 0 ≤ low.getD i 0 ∧ low.getD i 0 < 2 ^ k ∧ (lowUp (c : Int) k low).getD i 0 = low.getD i 0 + bitI (c : Int) i * 2 ^ k ∧ bitI ((lowUp (c : Int) k low).getD i 0) k = bitI (c : Int) i ∧ 0 ≤ (lowUp (c : Int) k low).getD i 0 := fun i hi => by
    have r := hw.get i
    have e := lowUp_getD (c := (c : Int)) (k := k) (low := low) (i := i) (by omega)
    have b := bitI_range (c : Int) i
    refine ⟨r.1, r.2, e, ?_, ?_⟩
    · rw [e, (bitI_up r b).1]
    · rw [e]
      have : 0 ≤ bitI (c : Int) i * 2 ^ k := Int.mul_nonneg b.1 (Int.le_of_lt p)
      omega
  have tb : ∀ i, bitI (c : Int) i = if c.testBit i then 1 else 0 := fun i => bitI_nat c i
  cases d with
  | xor i j =>
    have bi := bit i hd.1
    have bj := bit j hd.2.1
    show bitI (bx _ _) k = if c.testBit j then 1 - bitI (c : Int) i else bitI (c : Int) i
    rw [bitI_bx bi.2.2.2.2 bj.2.2.2.2, bi.2.2.2.1, bj.2.2.2.1, tb i, tb j]
    cases c.testBit i <;> cases c.testBit j <;> rfl
  | and i j l =>
    have bi := bit i hd.1
    have bj := bit j hd.2.1
    have bl := bit l hd.2.2.1
    show bitI (bx _ (ba _ _)) k = if (c.testBit j && c.testBit l) then 1 - bitI (c : Int) i else bitI (c : Int) i
    rw [bitI_bx bi.2.2.2.2 (ba_nn _ _), bitI_ba bj.2.2.2.2 bl.2.2.2.2, bi.2.2.2.1, bj.2.2.2.1, bl.2.2.2.1, tb i, tb j, tb l]
    cases c.testBit i <;> cases c.testBit j <;> cases c.testBit l <;> rfl
  | add i j =>
    have bi := bit i hd.1
    have bj := bit j hd.2.1
    show bitI ((_ + 1 * _) % 2 ^ v) k = if (c.testBit j ^^ decide (2 ^ k ≤ low.getD i 0 + low.getD j 0)) then 1 - bitI (c : Int) i else bitI (c : Int) i
    rw [bitI_emod hk, bi.2.2.1, bj.2.2.1, Int.one_mul]
    have e : low.getD i 0 + bitI (c : Int) i * 2 ^ k + (low.getD j 0 + bitI (c : Int) j * 2 ^ k) = low.getD i 0 + low.getD j 0 + (bitI (c : Int) i + bitI (c : Int) j) * 2 ^ k := by
      rw [Int.add_mul]; omega
    rw [e]
    unfold bitI
    rw [Int.add_mul_ediv_right _ _ (Int.ne_of_gt p)]
    show ((low.getD i 0 + low.getD j 0) / 2 ^ k + (bitI (c : Int) i + bitI (c : Int) j)) % 2 = if _ then 1 - bitI (c : Int) i else bitI (c : Int) i
    rw [tb i, tb j]
    by_cases q : 2 ^ k ≤ low.getD i 0 + low.getD j 0
    · have : (low.getD i 0 + low.getD j 0) / 2 ^ k = 1 := by
        have h1 := Int.add_mul_ediv_right (low.getD i 0 + low.getD j 0 - 2 ^ k) 1 (Int.ne_of_gt p)
        rw [Int.one_mul, Int.sub_add_cancel] at h1
        rw [h1, Int.ediv_eq_zero_of_lt (by omega) (by omega)]
        rfl
      rw [this, decide_eq_true q]
      cases c.testBit i <;> cases c.testBit j <;> rfl
    · have : (low.getD i 0 + low.getD j 0) / 2 ^ k = 0 := Int.ediv_eq_zero_of_lt (by omega) (by omega)
      rw [this, decide_eq_false q]
      cases c.testBit i <;> cases c.testBit j <;> rfl
  | one i =>
    have bi := bit i hd
    show bitI ((_ + 1) % 2 ^ v) k = if decide (2 ^ k ≤ low.getD i 0 + 1) then 1 - bitI (c : Int) i else bitI (c : Int) i
    rw [bitI_emod hk, bi.2.2.1]
    have e : low.getD i 0 + bitI (c : Int) i * 2 ^ k + 1 = low.getD i 0 + 1 + bitI (c : Int) i * 2 ^ k := by omega
    rw [e]
    unfold bitI
    rw [Int.add_mul_ediv_right _ _ (Int.ne_of_gt p)]
    show ((low.getD i 0 + 1) / 2 ^ k + bitI (c : Int) i) % 2 = if _ then 1 - bitI (c : Int) i else bitI (c : Int) i
    rw [tb i]
    by_cases q : 2 ^ k ≤ low.getD i 0 + 1
    · have e1 : low.getD i 0 + 1 = 2 ^ k := by omega
      rw [e1, Int.ediv_self (Int.ne_of_gt p), decide_eq_true (Int.le_refl _)]
      cases c.testBit i <;> rfl
    · have : (low.getD i 0 + 1) / 2 ^ k = 0 := Int.ediv_eq_zero_of_lt (by omega) (by omega)
      rw [this, decide_eq_false q]
      cases c.testBit i <;> rfl
theorem xor_pow_lt {c i : Nat} (hc : c < 2 ^ n) (hi : i < n) : c ^^^ 2 ^ i < 2 ^ n := Nat.xor_lt_two_pow hc (Nat.pow_lt_pow_right (by decide) hi)
theorem deed_mov {d : Dd} (hd : d.Ok n) (hl : low.length = n) (hw : InW k low) (hk : k < v) : movN v n (tabOf v n (d.act v 1)) k low = flipL n d.pl (d.g k low) := by
  refine ext_getD (by rw [movN_len]; unfold flipL; rw [List.length_map, List.length_range]) fun c hc => ?_
  rw [movN_len] at hc
  have st : (lowUp (c : Int) k low).length = n ∧ InW v (lowUp (c : Int) k low) := ⟨(lowUp_len _ k low).trans hl, lowUp_in hw hk⟩
  rw [movN_get hc, tabOf_img (deed_map hd) st.1 st.2]
  have e : (flipL n d.pl (d.g k low)).getD c 0 = if d.g k low c then c ^^^ 2 ^ d.pl else c := by
    unfold flipL
    rw [List.getD_eq_getElem?_getD, List.getElem?_map, List.getElem?_range hc]
    rfl
  rw [e]
  have hp := d.pl_lt hd
  have r := colI_range k (d.act v 1 (lowUp (c : Int) k low))
  rw [act_len, st.1] at r
  have goal : colI (d.act v 1 (lowUp (c : Int) k low)) k = ((if d.g k low c then c ^^^ 2 ^ d.pl else c : Nat) : Int) := by
    refine ext_bits (n := n) r ?_ fun i hi => ?_
    · split
      · exact cast_lt (xor_pow_lt hc hp)
      · exact cast_lt hc
    · have lx : i < (d.act v 1 (lowUp (c : Int) k low)).length := by rw [act_len, st.1]; exact hi
      rw [bitI_col k _ i _ (List.getElem?_eq_getElem lx)]
      have ge : (d.act v 1 (lowUp (c : Int) k low))[i] = if i = d.pl then d.new v 1 (lowUp (c : Int) k low) else (lowUp (c : Int) k low).getD i 0 := by
        have e1 : (d.act v 1 (lowUp (c : Int) k low)).getD i 0 = (d.act v 1 (lowUp (c : Int) k low))[i] := getD_of (List.getElem?_eq_getElem lx)
        rw [← e1]
        unfold Dd.act
        by_cases z : i = d.pl
        · rw [if_pos z, z, getD_set_eq (by rw [st.1]; exact hp)]
        · rw [if_neg z, getD_set_ne (fun q => z q.symm)]
      rw [ge, bitI_nat]
      have low_bit : bitI ((lowUp (c : Int) k low).getD i 0) k = bitI (c : Int) i := by
        rw [lowUp_getD (by omega), (bitI_up (hw.get i) (bitI_range (c : Int) i)).1]
      by_cases z : i = d.pl
      · rw [if_pos z, new_bit hd hl hw hk, bitI_nat, z]
        by_cases q : d.g k low c = true
        · rw [if_pos q, if_pos q, Nat.testBit_xor, Nat.testBit_two_pow_self]
          cases c.testBit d.pl <;> rfl
        · rw [if_neg q, if_neg q]
      · rw [if_neg z, low_bit, bitI_nat]
        by_cases q : d.g k low c = true
        · rw [if_pos q, Nat.testBit_xor, Nat.testBit_two_pow_of_ne (fun y => z y.symm), Bool.xor_false]
        · rw [if_neg q]
  rw [goal, Int.toNat_natCast]
def chkA : Bool := [3, 4, 5].all fun n => (List.range n).all fun i => (List.range n).all fun j => [true, false].all fun b => i == j || par (flipL n i (fun c => (c.testBit j) ^^ b)) == 0
def chkO : Bool := [3, 4, 5].all fun n => (List.range n).all fun i => [true, false].all fun b => par (flipL n i (fun _ => b)) == 0
def chkN : Bool := [3, 4, 5].all fun n => (List.range n).all fun i => (List.range n).all fun j => (List.range n).all fun l => i == j || i == l || j == l || par (flipL n i (fun c => c.testBit j && c.testBit l)) == (if n = 3 then 1 else 0)
theorem chkA_ok : chkA = true := by decide +kernel
theorem chkO_ok : chkO = true := by decide +kernel
theorem chkN_ok : chkN = true := by decide +kernel
def Dd.Two : Dd → Prop
  | .and _ j l => j ≠ l
  | _ => True
def Dd.isAnd : Dd → Bool
  | .and _ _ _ => true
  | _ => false
/-- THE SIGN of a deed -/
theorem deed_sign {d : Dd} (hn : n = 3 ∨ n = 4 ∨ n = 5) (hd : d.Ok n) (h2 : d.Two) (hl : low.length = n) (hw : InW k low) (hk : k < v) :
    par (movN v n (tabOf v n (d.act v 1)) k low) = if d.isAnd = true ∧ n = 3 then 1 else 0 := by
  rw [deed_mov hd hl hw hk]
  have mem : n ∈ [3, 4, 5] := by rcases hn with rfl | rfl | rfl <;> decide
  have b2 : ∀ b : Bool, b ∈ [true, false] := by decide
  have a := List.all_eq_true.mp chkA_ok n mem
  have o := List.all_eq_true.mp chkO_ok n mem
  have w := List.all_eq_true.mp chkN_ok n mem
  cases d with
  | add i j =>
    have := List.all_eq_true.mp (List.all_eq_true.mp (List.all_eq_true.mp a i (List.mem_range.mpr hd.1)) j (List.mem_range.mpr hd.2.1)) (decide (2 ^ k ≤ low.getD i 0 + low.getD j 0)) (b2 _)
    rw [if_neg (fun z => Bool.noConfusion z.1)]
    simp only [Bool.or_eq_true, beq_iff_eq] at this
    exact this.resolve_left hd.2.2
  | xor i j =>
    have := List.all_eq_true.mp (List.all_eq_true.mp (List.all_eq_true.mp a i (List.mem_range.mpr hd.1)) j (List.mem_range.mpr hd.2.1)) false (b2 _)
    rw [if_neg (fun z => Bool.noConfusion z.1)]
    simp only [Bool.or_eq_true, beq_iff_eq, Bool.xor_false] at this
    exact this.resolve_left hd.2.2
  | one i =>
    have := List.all_eq_true.mp (List.all_eq_true.mp o i (List.mem_range.mpr hd)) (decide (2 ^ k ≤ low.getD i 0 + 1)) (b2 _)
    rw [if_neg (fun z => Bool.noConfusion z.1)]
    simp only [beq_iff_eq] at this
    exact this
  | and i j l =>
    have := List.all_eq_true.mp (List.all_eq_true.mp (List.all_eq_true.mp w i (List.mem_range.mpr hd.1)) j (List.mem_range.mpr hd.2.1)) l (List.mem_range.mpr hd.2.2.1)
    simp only [Bool.or_eq_true, beq_iff_eq] at this
    have e := (this.resolve_left fun z => z.elim (fun z => z.elim hd.2.2.2.1 hd.2.2.2.2) h2)
    show par (flipL n i (fun c => c.testBit j && c.testBit l)) = _
    rw [e]
    by_cases z : n = 3
    · rw [if_pos z, if_pos ⟨rfl, z⟩]
    · rw [if_neg z, if_neg (fun q => z q.2)]
end

/-! ### tables laid level by level -/
section
variable {v n : Nat}
def layW (rows : Nat → List Int → List Nat) : Nat → List Int → List Int
  | 0, x => List.replicate x.length 0
  | j + 1, x => lowUp (((rows j (lowL j x)).getD (colI x j).toNat 0 : Nat) : Int) j (layW rows j x)
variable {rows : Nat → List Int → List Nat}
theorem layW_in (x : List Int) : ∀ j, (layW rows j x).length = x.length ∧ InW j (layW rows j x)
  | 0 => ⟨List.length_replicate, fun y hy => by
      rw [List.eq_of_mem_replicate hy]
      exact ⟨Int.le_refl _, by decide⟩⟩
  | j + 1 => ⟨(lowUp_len _ _ _).trans (layW_in x j).1, lowUp_in (layW_in x j).2 (Nat.lt_succ_self j)⟩
theorem layW_low (x : List Int) {m : Nat} : ∀ j, m ≤ j → lowL m (layW rows j x) = layW rows m x
  | 0, h => by
    have : m = 0 := by omega
    subst this
    exact lowL_id (layW_in x 0).2
  | j + 1, h => by
    by_cases z : m = j + 1
    · subst z
      exact lowL_id (layW_in x (j + 1)).2
    · have hj : m ≤ j := by omega
      rw [← lowL_low hj]
      show lowL m (lowL j (lowUp _ j (layW rows j x))) = _
      rw [lowUp_low (layW_in x j).2]
      exact layW_low x j hj
theorem layW_dep {x y : List Int} (hl : x.length = y.length) : ∀ m, lowL m x = lowL m y → layW rows m x = layW rows m y
  | 0, _ => by show List.replicate _ _ = List.replicate _ _; rw [hl]
  | m + 1, h => by
    have e := (low_succ hl).mp h
    show lowUp _ m _ = lowUp _ m _
    rw [e.1, e.2, layW_dep hl m e.1]
theorem layW_inj (hr : ∀ j, j < v → ∀ low : List Int, low.length = n → InW j low → IsP (2 ^ n) (rows j low)) {x y : List Int} (hx : x.length = n) (hy : y.length = n) : ∀ m, m ≤ v → layW rows m x = layW rows m y → lowL m x = lowL m y
  | 0, _, _ => by
    have z : ∀ w : List Int, lowL 0 w = List.replicate w.length 0 := fun w => by
      unfold lowL
      rw [List.eq_replicate_iff]
      refine ⟨List.length_map .., fun b hb => ?_⟩
      obtain ⟨c, _, rfl⟩ := List.mem_map.mp hb
      rw [Int.pow_zero, Int.emod_one]
    rw [z, z, hx, hy]
  | m + 1, hm, h => by
    have e1 : layW rows m x = layW rows m y := by rw [← layW_low x (m + 1) (Nat.le_succ m), h, layW_low y (m + 1) (Nat.le_succ m)]
    have e2 := layW_inj hr hx hy m (by omega) e1
    refine (low_succ (hx.trans hy.symm)).mpr ⟨e2, ?_⟩
    have P := hr m (by omega) (lowL m x) ((lowL_len m x).trans hx) (lowL_in m x)
    have cx := col_lt (k := m) hx
    have cy := col_lt (k := m) hy
    have gx := P.get cx.1
    have gy := P.get cy.1
    have h : lowUp (((rows m (lowL m x)).getD (colI x m).toNat 0 : Nat) : Int) m (layW rows m x) = lowUp (((rows m (lowL m y)).getD (colI y m).toNat 0 : Nat) : Int) m (layW rows m y) := h
    have c1 := lowUp_col (c := (((rows m (lowL m x)).getD (colI x m).toNat 0 : Nat) : Int)) (layW_in (rows := rows) x m).2 (by rw [(layW_in x m).1, hx]; exact cast_lt gx)
    have c2 := lowUp_col (c := (((rows m (lowL m y)).getD (colI y m).toNat 0 : Nat) : Int)) (layW_in (rows := rows) y m).2 (by rw [(layW_in y m).1, hy, ← e2]; exact cast_lt gy)
    rw [h, c2, ← e2] at c1
    have := P.inj cx.1 cy.1 (by omega)
    rw [← cx.2, ← cy.2, this]
theorem lay_map (hr : ∀ j, j < v → ∀ low : List Int, low.length = n → InW j low → IsP (2 ^ n) (rows j low)) : MapOk v n (layW rows v) where
  inn := fun x hn _ => ⟨(layW_in x v).1.trans hn, (layW_in x v).2⟩
  inj := fun x y hn hw hn2 hw2 e => by
    have := layW_inj hr hn hn2 v (Nat.le_refl v) e
    rwa [lowL_id hw, lowL_id hw2] at this
  tri := fun m hm x y hn hn2 _ _ e => by rw [layW_low x v hm, layW_low y v hm]; exact layW_dep (hn.trans hn2.symm) m e
end
end HW
/-! Own layer, part Q: ranges from their end, tuples of ranges; the words of a number. -/
namespace HW
open PySem PySem.Spec PyProof.Rows L2 RZ
section
variable {X : Cx} {rs : Rs} {M : Mem} {ρ : List (Option Ab)} {tg e : Expr} {p pos p3 pos3 : Pos} {RI : Nat → (Nat → Ab → Prop) → Prop} {i : Int}
theorem itOk_rngC {K : PySem.W.Frag} {G : Hp} (lo c : Int) (n : Nat) : ItOk K G (Itc lo c n) n (fun i y => y = aI (lo + i * c)) := fun rs M G1 H1 e ok => by
  refine ⟨fun i hi => ⟨hi, fun x H2 y => ?_⟩, Nat.le_refl _⟩
  obtain ⟨rfl, rfl⟩ := y
  exact ⟨_, G1, rfl, Dp.int _, Nxt.rfl ok⟩
/-- for x in reversed(range(n)) -/
theorem di_revRange {n : Nat} (hm : X.mg "reversed" = none) (hm2 : X.mg "range" = none) (ha : DE X rs M ρ e (Is (aI (n : Int)))) (hn : n ≤ 100000) (h : RI n (fun i y => y = aI ((n : Int) - 1 - i))) (hg : Gl X "reversed" := by rfl) (hg2 : Gl X "range" := by rfl)
    (he : starEach [e] X.env = (false, eval e X.env) :: starEach [] X.env := by rfl)
    (he2 : starEach [Expr.Call (.Name "range" p3) [e] [] pos3] X.env = (false, eval (Expr.Call (.Name "range" p3) [e] [] pos3) X.env) :: starEach [] X.env := by rfl) :
    DI X rs M ρ tg (.Call (.Name "reversed" p) [.Call (.Name "range" p3) [e] [] pos3] [] pos) RI :=
  pi_weak (pi_revR hg hm (prg_1 hg2 hm2 ha he) he2) fun σ H T ⟨G, l, ok, k⟩ => ⟨G, l, ok, fun v y G1 H1 ry rep n1 => by
    subst ry
    rw [rep_int rep]
    refine ⟨(n : Int), rfl, by decide, by decide, by omega, by omega, ?_⟩
    have e0 : ((n : Int) - 0).toNat = n := by omega
    rw [e0]
    refine k _ n _ G1 H1 h ?_ n1
    have it := itOk_rngC (K := X.K) (G := G1) (0 + ((n : Nat) : Int) - 1) (-1) n
    intro rs M G2 H2 s2 o2
    obtain ⟨a, b⟩ := it rs M G2 H2 s2 o2
    refine ⟨fun i hi => ⟨(a i hi).1, fun x H3 y => ?_⟩, b⟩
    obtain ⟨u, G4, h1, h2, h3⟩ := (a i hi).2 x H3 y
    exact ⟨u, G4, by rw [h1, show (0 + (n : Int) - 1 + (i : Int) * -1) = (n : Int) - 1 - i by omega], h2, h3⟩⟩
/-- tuple(range(n)) -/
theorem de_tupRange {n : Nat} (hm : X.mg "tuple" = none) (hm2 : X.mg "range" = none) (ha : DE X rs M ρ e (Is (aI (n : Int)))) (hn : n ≤ 100000) (hc : X.calm = true := by rfl) (hg : Gl X "tuple" := by rfl) (hg2 : Gl X "range" := by rfl)
    (he : starEach [e] X.env = (false, eval e X.env) :: starEach [] X.env := by rfl)
    (he2 : starEach [Expr.Call (.Name "range" p3) [e] [] pos3] X.env = (false, eval (Expr.Call (.Name "range" p3) [e] [] pos3) X.env) :: starEach [] X.env := by rfl) :
    DE X rs M ρ (.Call (.Name "tuple" p) [.Call (.Name "range" p3) [e] [] pos3] [] pos) (Is (aT ((nI (List.range n)).map .int))) :=
  pe_weak (pe_tupRg hc hg hm (prg_1 hg2 hm2 ha he) he2) fun σ H Q ⟨G, l, ok, k⟩ => ⟨G, l, ok, fun v y G1 H1 ry rep n1 => by
    subst ry
    rw [rep_int rep]
    have ok1 := ok.nxt n1
    refine ⟨(n : Int), rfl, ⟨by decide, by decide, by omega, by omega, by omega⟩, fun z hz => k (.ref z) _ (upd G1 z (.tup (rgV 0 (n : Int)))) _ rfl ?_ (n1.trans (Nxt.new ok1 hz) ok)⟩
    have e1 : rgV 0 (n : Int) = (nI (List.range n)).map V.int := by
      unfold rgV nI
      rw [List.map_map, Int.sub_zero, Int.toNat_natCast]
      exact List.map_congr_left fun k _ => by show V.int (0 + (k : Int)) = V.int (k : Int); rw [Int.zero_add]
    rw [e1]
    have r := ints_repAll (K := X.K) (G := upd G1 z (.tup ((nI (List.range n)).map V.int))) (nI (List.range n))
    have e2 : (nI (List.range n)).map aI = ((nI (List.range n)).map PyData.int).map Ab.d := by rw [List.map_map]; rfl
    rw [e2] at r
    exact Dp.tup (.inl (.inl upd_same)) (repAll_dp.mp r)⟩
end

/-! ### the words of a number -/
theorem band_top {x : Int} (h : 0 ≤ x) (v : Nat) : Builtin.bitAnd x (2 ^ v - 1) = x % 2 ^ v := by
  obtain ⟨n, rfl⟩ := Int.eq_ofNat_of_zero_le h
  have p : 1 ≤ 2 ^ v := Nat.one_le_two_pow
  have e : ((2 : Int) ^ v - 1) = ((2 ^ v - 1 : Nat) : Int) := by
    have := HW.pow_int v
    omega
  rw [e]
  show ((n &&& (2 ^ v - 1) : Nat) : Int) = _
  rw [Nat.and_two_pow_sub_one_eq_mod, ← HW.pow_int, Int.natCast_emod]
/-- a word of a state by its number -/
theorem num_word {v : Nat} : ∀ {n : Nat} {ws : List Int}, ws.length = n → InW v ws → ∀ i, i < n → numI v ws / 2 ^ (v * (n - 1 - i)) % 2 ^ v = ws.getD i 0
  | 0, _, _, _, i, h => absurd h (Nat.not_lt_zero _)
  | n + 1, ws, hn, hw, i, hi => by
    have hx : ws[n]? = some ws[n] := List.getElem?_eq_getElem (by omega)
    have e : ws = ws.take n ++ [ws[n]] := by
      rw [← take_snoc hx, List.take_of_length_le (by omega)]
    have hr := hw ws[n] (List.getElem_mem _)
    have p := two_pow_pos v
    have num : numI v ws = ws[n] + numI v (ws.take n) * 2 ^ v := by
      have := numI_snoc v (ws.take n) ws[n]
      rw [← e] at this
      omega
    by_cases z : i = n
    · subst z
      rw [show i + 1 - 1 - i = 0 by omega, Nat.mul_zero, Int.pow_zero, Int.ediv_one, num, Int.add_mul_emod_self_right, Int.emod_eq_of_lt hr.1 hr.2, getD_of hx]
    · have ih := num_word (v := v) (n := n) (ws := ws.take n) (by rw [List.length_take]; omega) (hw.take n) i (by omega)
      have e1 : n + 1 - 1 - i = (n - 1 - i) + 1 := by omega
      have e2 : numI v ws / 2 ^ (v * (n + 1 - 1 - i)) = numI v (ws.take n) / 2 ^ (v * (n - 1 - i)) := by
        rw [e1, Nat.mul_succ, Nat.add_comm, Int.pow_add, ← Int.ediv_ediv_of_nonneg (Int.le_of_lt p), num, Int.add_mul_ediv_right _ _ (Int.ne_of_gt p), Int.ediv_eq_zero_of_lt hr.1 hr.2, Int.zero_add]
      rw [e2, ih, List.getD_eq_getElem?_getD, List.getD_eq_getElem?_getD, List.getElem?_take, if_pos (by omega)]
end HW
/-! Own layer, part R: cycles counted; data told by words. -/
namespace HW
open PySem PySem.Spec PyProof.Rows L2 RZ
/-- t exchanges along the cycle of c -/
structure OrbSt (N : Nat) (p : List Nat) (c t : Nat) (l : List Nat) : Prop where
  is : IsP N l
  pr : (par l + t + par p) % 2 = 0
  here : l.getD c 0 = orb p c (t + 1)
  fix : ∀ i, 1 ≤ i → i ≤ t → l.getD (orb p c i) 0 = orb p c i
  rest : ∀ x, x < N → x ≠ c → (∀ i, 1 ≤ i → i ≤ t → x ≠ orb p c i) → l.getD x 0 = p.getD x 0
theorem OrbSt.start {N : Nat} {p : List Nat} (hp : IsP N p) (c : Nat) : OrbSt N p c 0 p := ⟨hp, by omega, rfl, fun i a b => by omega, fun x _ _ _ => rfl⟩
theorem OrbSt.step {N : Nat} {p l : List Nat} {c m t : Nat} (hp : IsP N p) (hc : c < N) (hm : ∀ i, 1 ≤ i → i < m → orb p c i ≠ c) (ht : t + 2 ≤ m) (o : OrbSt N p c t l) : OrbSt N p c (t + 1) (swp l c (orb p c (t + 1))) := by
  obtain ⟨hl, h1, h2, h3, h4⟩ := o
  have hg : orb p c (t + 1) ≠ c := hm _ (by omega) (by omega)
  have hgN := orb_lt hp hc (t + 1)
  have new : ∀ i, 1 ≤ i → i ≤ t → orb p c (t + 1) ≠ orb p c i := fun i a b e => by
    have := orb_inj hp hc hm (i := t + 1) (j := i) (by omega) (by omega) e
    omega
  have s := par_swp hl (fun z => hg z.symm) hc hgN
  have lc : c < l.length := by rw [hl.len]; exact hc
  have lg : orb p c (t + 1) < l.length := by rw [hl.len]; exact hgN
  refine ⟨hl.swp (fun z => hg z.symm) hc hgN, by omega, ?_, fun i a b => ?_, fun x hx hxc hxi => ?_⟩
  · rw [swp_get lc lg, if_neg (fun z => hg z.symm), if_pos rfl, h4 _ hgN hg new]
    rfl
  · rw [swp_get lc lg]
    by_cases z : i = t + 1
    · subst z
      rw [if_pos rfl, h2]
    · rw [if_neg (fun q => new i a (by omega) q.symm), if_neg (hm i a (by omega))]
      exact h3 i a (by omega)
  · rw [swp_get lc lg, if_neg (hxi (t + 1) (by omega) (Nat.le_refl _)), if_neg hxc]
    exact h4 x hx hxc fun i a b => hxi i a (by omega)
theorem OrbSt.to {N : Nat} {p : List Nat} {c m : Nat} (hp : IsP N p) (hc : c < N) (hm : ∀ i, 1 ≤ i → i < m → orb p c i ≠ c) : ∀ t, t + 1 ≤ m → ∃ l, OrbSt N p c t l
  | 0, _ => ⟨p, .start hp c⟩
  | t + 1, h => by
    obtain ⟨l, o⟩ := OrbSt.to hp hc hm t (by omega)
    exact ⟨_, o.step hp hc hm (by omega)⟩
/-- what is fixed below c stays so behind c's cycle -/
theorem OrbSt.keep {N : Nat} {p l : List Nat} {c t : Nat} (o : OrbSt N p c t l) {x : Nat} (hx : x < N) (hxc : x ≠ c) (e : p.getD x 0 = x) : l.getD x 0 = x := by
  by_cases z : ∃ i, 1 ≤ i ∧ i ≤ t ∧ x = orb p c i
  · obtain ⟨i, a, b, rfl⟩ := z
    exact o.fix i a b
  · rw [o.rest x hx hxc fun i a b q => z ⟨i, a, b, q⟩, e]

/-! ### cycles, one behind the other -/
structure CycSt (N : Nat) (p : List Nat) (i : Nat) (bs : List Bool) (r : Nat) (l : List Nat) : Prop where
  bl : bs.length = N
  is : IsP N l
  fix : ∀ x, x < N → bs.getD x false = true → l.getD x 0 = x
  same : ∀ x, x < N → bs.getD x false = false → l.getD x 0 = p.getD x 0
  clo : ∀ x, x < N → bs.getD x false = true → bs.getD (p.getD x 0) false = true
  pr : (par l + (bs.count true - r) + par p) % 2 = 0
  rl : r ≤ bs.count true
  dn : ∀ x, x < i → x < N → bs.getD x false = true
theorem CycSt.start {N : Nat} {p : List Nat} (hp : IsP N p) : CycSt N p 0 (List.replicate N false) 0 p where
  bl := List.length_replicate
  is := hp
  fix := fun x hx h => by rw [List.getD_eq_getElem?_getD, List.getElem?_replicate_of_lt hx] at h; cases h
  same := fun x _ _ => rfl
  clo := fun x hx h => by rw [List.getD_eq_getElem?_getD, List.getElem?_replicate_of_lt hx] at h; cases h
  pr := by
    rw [List.count_replicate, if_neg (by decide)]
    omega
  rl := Nat.zero_le _
  dn := fun x h => absurd h (Nat.not_lt_zero _)
theorem CycSt.skip {N : Nat} {p l : List Nat} {i r : Nat} {bs : List Bool} (s : CycSt N p i bs r l) (h : bs.getD i false = true) : CycSt N p (i + 1) bs r l :=
  ⟨s.bl, s.is, s.fix, s.same, s.clo, s.pr, s.rl, fun x hx hN => by
    by_cases z : x = i
    · rw [z]; exact h
    · exact s.dn x (by omega) hN⟩
theorem CycSt.step {N : Nat} {p l : List Nat} {i r m : Nat} {bs bs' : List Bool} (s : CycSt N p i bs r l) (hp : IsP N p) (hi : i < N) (h : bs.getD i false = false) (m1 : 1 ≤ m) (hm : orb p i m = i) (hne : ∀ j, 1 ≤ j → j < m → orb p i j ≠ i)
    (bl : bs'.length = N) (ct : bs'.count true = bs.count true + m) (mem : ∀ x, x < N → (bs'.getD x false = true ↔ bs.getD x false = true ∨ ∃ j, j < m ∧ x = orb p i j)) : ∃ l', CycSt N p (i + 1) bs' (r + 1) l' := by
  -- the cycle is new
  have new : ∀ j, j ≤ m → bs.getD (orb p i j) false = false := by
    have back : ∀ d j, j + d = m → bs.getD (orb p i j) false = true → False := by
      intro d
      induction d with
      | zero =>
        intro j hj q
        have : j = m := by omega
        rw [this, hm, h] at q
        cases q
      | succ d ih =>
        intro j hj q
        exact ih (j + 1) (by omega) (s.clo _ (orb_lt hp hi j) q)
    intro j hj
    cases q : bs.getD (orb p i j) false with
    | false => rfl
    | true => exact (back (m - j) j (by omega) q).elim
  have same : ∀ j, j ≤ m → orb l i j = orb p i j := by
    intro j
    induction j with
    | zero => intro _; rfl
    | succ j ih =>
      intro hj
      show l.getD (orb l i j) 0 = p.getD (orb p i j) 0
      rw [ih (by omega), s.same _ (orb_lt hp hi j) (new j (by omega))]
  have hneL : ∀ j, 1 ≤ j → j < m → orb l i j ≠ i := fun j a b => by rw [same j (by omega)]; exact hne j a b
  obtain ⟨l', o⟩ := OrbSt.to s.is hi hneL (m - 1) (by omega)
  have here : l'.getD i 0 = i := by
    have := o.here
    rw [show m - 1 + 1 = m by omega, same m (Nat.le_refl _), hm] at this
    exact this
  have fixO : ∀ j, j < m → l'.getD (orb p i j) 0 = orb p i j := fun j hj => by
    cases j with
    | zero => exact here
    | succ j =>
      have := o.fix (j + 1) (by omega) (by omega)
      rwa [same (j + 1) (by omega)] at this
  refine ⟨l', bl, o.is, fun x hx q => ?_, fun x hx q => ?_, fun x hx q => ?_, ?_, by have := s.rl; omega, fun x hx hN => ?_⟩
  · rcases (mem x hx).mp q with z | ⟨j, hj, rfl⟩
    · exact o.keep hx (fun e => by rw [e, h] at z; cases z) (s.fix x hx z)
    · exact fixO j hj
  · have nb : bs.getD x false = false := by
      cases z : bs.getD x false with
      | false => rfl
      | true => rw [(mem x hx).mpr (.inl z)] at q; cases q
    have no : ∀ j, j < m → x ≠ orb p i j := fun j hj e => by rw [(mem x hx).mpr (.inr ⟨j, hj, e⟩)] at q; cases q
    rw [o.rest x hx (no 0 (by omega)) fun j a b => by rw [same j (by omega)]; exact no j (by omega), s.same x hx nb]
  · have hpx := hp.get hx
    refine (mem _ hpx).mpr ?_
    rcases (mem x hx).mp q with z | ⟨j, hj, rfl⟩
    · exact .inl (s.clo x hx z)
    · by_cases e : j + 1 = m
      · exact .inr ⟨0, by omega, by
          show orb p i (j + 1) = _
          rw [e, hm]
          rfl⟩
      · exact .inr ⟨j + 1, by omega, rfl⟩
  · have a := o.pr
    have b := s.pr
    have c := s.rl
    rw [ct]
    omega
  · by_cases z : x = i
    · exact (mem x hN).mpr (.inr ⟨0, by omega, z⟩)
    · exact (mem x hN).mpr (.inl (s.dn x (by omega) hN))
theorem CycSt.fin {N : Nat} {p l : List Nat} {r : Nat} {bs : List Bool} (s : CycSt N p N bs r l) : r ≤ N ∧ (N - r) % 2 = par p := by
  have all : bs.count true = N := by
    rw [← s.bl]
    refine List.count_eq_length.mpr fun b hb => ?_
    obtain ⟨x, hx⟩ := List.mem_iff_getElem?.mp hb
    have lt := (List.getElem?_eq_some_iff.mp hx).1
    have := s.dn x (by rw [← s.bl]; exact lt) (by rw [← s.bl]; exact lt)
    rw [getD_of hx] at this
    exact this.symm
  have e := s.is.is_range fun i hi => s.fix i hi (s.dn i hi hi)
  have a := s.pr
  have b := s.rl
  rw [e, par_range, all] at a
  rw [all] at b
  have := par_lt p
  exact ⟨b, by omega⟩
theorem count_set {bs : List Bool} {x : Nat} (hx : x < bs.length) (h : bs.getD x false = false) : (bs.set x true).count true = bs.count true + 1 := by
  have e : bs[x] = false := by rw [List.getD_eq_getElem?_getD, List.getElem?_eq_getElem hx] at h; exact h
  rw [List.count_set hx, e]
  simp
theorem getD_set {bs : List Bool} {x y : Nat} (hx : x < bs.length) : (bs.set x true).getD y false = if y = x then true else bs.getD y false := by
  rw [List.getD_eq_getElem?_getD, List.getD_eq_getElem?_getD]
  by_cases z : y = x
  · subst z
    rw [if_pos rfl, List.getElem?_set_self hx]
    rfl
  · rw [if_neg z, List.getElem?_set_ne (fun q => z q.symm)]

/-! ### data told by words -/
def bD (bs : List Bool) : List PyData := bs.map PyData.bool
theorem bD_get {bs : List Bool} {i : Nat} (h : i < bs.length) : ((bD bs).map Ab.d)[i]? = some (aB (bs.getD i false)) := by
  unfold bD
  rw [List.getElem?_map, List.getElem?_map, List.getElem?_eq_getElem h, List.getD_eq_getElem?_getD, List.getElem?_eq_getElem h]
  rfl
theorem bD_len (bs : List Bool) : ((bD bs).map Ab.d).length = bs.length := by
  unfold bD
  rw [List.length_map, List.length_map]
theorem bD_set (bs : List Bool) (i : Nat) (b : Bool) : ((bD bs).map Ab.d).set i (aB b) = (bD (bs.set i b)).map Ab.d := by
  unfold bD
  rw [List.map_set, List.map_set]
section
variable {X : Cx} {rs : Rs} {M : Mem} {ρ : List (Option Ab)} {a b e : Expr} {p pos : Pos} {R Ra Rb : Ab → Prop}
/-- len(e), e some list -/
theorem de_lenR (hm : X.mg "len" = none) (ha : DE X rs M ρ e Ra) (hs : ∀ y, Ra y → ∃ ds, y = aL ds ∧ R (aI (ds.length : Int))) (hg : Gl X "len" := by rfl) (he : starEach [e] X.env = (false, eval e X.env) :: starEach [] X.env := by rfl) :
    DE X rs M ρ (.Call (.Name "len" p) [e] [] pos) R := de_callB (T := fun as => ∃ y, as = [y] ∧ Ra y) cr_lenS hg hm PySem.boot_len (da_consR ha da_nil (fun y ys h1 h2 => ⟨y, by rw [h2], h1⟩) he) (fun as ⟨y, e1, hy⟩ => by
      obtain ⟨ds, rfl, r⟩ := hs y hy
      subst e1
      refine ac_len (seqs_l ds) ?_
      rw [List.length_map]
      exact r) (hs := he)
theorem de_subR (ha : DE X rs M ρ a Ra) (hb : DE X rs M ρ b Rb) (h : ∀ y z, Ra y → Rb z → ∃ i j, y = aI i ∧ z = aI j ∧ R (aI (i - j))) : DE X rs M ρ (.BinOp a .Sub b pos) R :=
  de_op op_sub ha hb fun y z h1 h2 => by
    obtain ⟨i, j, rfl, rfl, r⟩ := h y z h1 h2
    exact ar_int0 r
theorem de_modR (ha : DE X rs M ρ a Ra) (hb : DE X rs M ρ b Rb) (h : ∀ y z, Ra y → Rb z → ∃ i j, y = aI i ∧ z = aI j ∧ 0 < j ∧ R (aI (i % j))) : DE X rs M ρ (.BinOp a .Mod b pos) R :=
  de_op op_mod ha hb fun y z h1 h2 => by
    obtain ⟨i, j, rfl, rfl, hj, r⟩ := h y z h1 h2
    exact ar_int hj r
end
theorem eqv_selfT (ns : List Int) : PyData.eqv (.tuple (ns.map .int)) (.tuple (ns.map .int)) = true := by
  simp [PyData.eqv, eqv_ints]
theorem shaped_intsT (ns : List Int) : SeqAt.shaped (.tuple (ns.map .int)) = true := by
  obtain ⟨h1, h2⟩ := lay_ints ns
  unfold SeqAt.shaped
  simp only [PyData.canLay0, PyData.depth, h1, h2]
  rfl
end HW
/-! Own layer, part S: a name for a row; a dict made at once; the second deck made. -/
namespace HW
open PySem PySem.Spec PyProof.Rows L2 RZ
section
variable {X : Cx} {Ff : Addr → Prop} {S : Sta} {D : AE}
/-- y = [elt for x in iter], each item by its place -/
theorem ds_setLc1 {iter elt : Expr} {scope sc : Scope} {N : List Str} {pos tpos py spos : Pos} {x y : Str} (jy j : Nat) {n0 : Nat} {item0 : Nat → Ab → Prop} {f : Nat → PyData} (hi : DI X S.rs S.M S.ρ (.Name x tpos) iter (fun n item => n = n0 ∧ item = item0)) (nd : X.N.Nodup)
    (hb : blkC N sc scope [(x, j)] = true) (hn : n0 ≤ 100000) (hs : ∀ i a, i < n0 → item0 i a → AllBlk X scope (fun Y => DE Y S.rs S.M ((S.ρ.set j none).set j (some a)) elt (Is (.d (f i)))))
    (hg : AllBlk X scope (fun Y => DG Y (.Name x tpos) [j] (fun a ρ ρ' => ρ' = ρ.set j (some a)))) (k : D.nx ⟨S.rs, S.M, S.ρ.set jy (some (aL ((List.range n0).map f)))⟩) (hc : X.calm = true := by rfl) (eN : X.N = N := by rfl) (eS : X.env.scope = sc := by rfl)
    (hy : X.N[jy]? = some y := by rfl) (hyl : X.env.scope.names.lookup y = some .local := by rfl) (hsw : swapsWith (.ListComp elt [⟨.Name x tpos, iter, [], 0⟩] scope pos) (some (.Name y py)) spos.line X.env = pure true := by exact sw_true rfl rfl rfl (by decide +kernel))
    (hf : ∀ x, foldedSetIterable iter X.env x = pure x := by intro _; rfl) : DS X Ff S (.Assign [.Name y py] (.ListComp elt [⟨.Name x tpos, iter, [], 0⟩] scope pos) spos) D :=
  ds_setLc (R := Is (aL ((List.range n0).map f))) (own := [(x, j)]) jy (fun n item i acc => acc = ((List.range i).map f).map .d) hi hc nd (by rw [eN, eS]; exact blkOk_by hb) hg (fun _ _ _ => rfl) (fun n item i acc a ⟨h1, h2⟩ hlt ha ia => by
    subst h1 h2 ha
    refine ⟨by rw [List.length_map, List.length_map, List.length_range]; omega, _, fun b => b = true, rfl, fun s H C cl fp => dts_nil, fun _ => fun s H C cl fp => de_imp (hs i a hlt ia s H C cl fp) fun z hz => ?_, fun h => nomatch h⟩
    rw [hz, List.range_succ, List.map_append, List.map_append]
    rfl) (fun n item acc ⟨h1, h2⟩ ha => ⟨_, by rw [ha, h1], rfl⟩) (fun i h => h) (fun a ha => by subst ha; exact k) hy hyl hsw hf
/-- {a: [], b: e} -/
theorem dx_disp2 {v2 : Expr} {s1 s2 : Str} {k1 k2 : Nat} {p1 p2 p3 pos : Pos} {R : Ab → Prop} {U : Sta → Ab → Prop} (ne : s1 ≠ s2) (h : ∀ M', DE X S.rs M' S.ρ v2 R)
    (k : ∀ q l a, R a → U ⟨S.rs, ⟨l, true, .lst []⟩ :: ⟨q, true, .dct [(.inr s1, .at l), (.inr s2, a)]⟩ :: S.M, S.ρ⟩ (.at q)) :
    DX X Ff S (.Dict [some (.Constant (.str s1) k1 p1), some (.Constant (.str s2) k2 p2)] [.List [] p3, v2] pos) U := fun G0 H0 => by
  have hv2 : PE X v2 (fun σ H Q => ∃ M', tD X.K S.rs M' S.ρ R σ H Q) := ⟨fun pins s σ H Q I ⟨M', q⟩ => (h M').run pins s σ H Q I q⟩
  refine pe_weak (pe_disp (pps_cons pe_str (pe_lst pa_nil) (pps_cons pe_str hv2 pps_nil)) rfl rfl (by simp) (by show 2 ≤ 15; decide)) fun σ H Q ⟨G, s, kk⟩ p hp => ?_
  have n1 := Nxt.newM (o := .dK []) s.ok hp
  have st1 := s.pushM (mo := .dct []) n1 ⟨[], upd_same, rfl, trivial⟩ (s.ok.gnone hp) hp
  refine ⟨Nat.zero_le _, fun l hl => ?_⟩
  have n2 := Nxt.newM (o := .lst []) st1.ok hl
  have st2 := st1.push (vs := []) (as := []) n2 trivial upd_same (st1.ok.gnone hl) hl
  refine ⟨_, G, st2.loc, st2.ok, fun v a G3 H3 ra rep n3 => ?_⟩
  have st3 := st2.nxt n3
  obtain ⟨_, _, vs, e1, e2, _⟩ := st3.ok.m ⟨p, true, .dct []⟩ (List.mem_cons_of_mem _ List.mem_cons_self)
  have evs : vs = [] := List.map_eq_nil_iff.mp e2
  subst evs
  have ems : mergeK [] [(Sum.inr s1, V.ref l), (Sum.inr s2, v)] = [(Sum.inr s1, V.ref l), (Sum.inr s2, v)] := by
    unfold mergeK
    simp only [List.foldl_cons, List.foldl_nil]
    unfold putK
    have e : ¬ ((Sum.inr s1 : Key) = Sum.inr s2) := fun z => ne (Sum.inr.inj z)
    simp [e]
  refine ⟨e1, [(Sum.inr s1, V.ref l), (Sum.inr s2, v)], rfl, by show 2 ≤ 15; decide, ?_⟩
  rw [ems]
  exact kk ⟨S.rs, ⟨l, true, .lst []⟩ :: ⟨p, true, .dct [(.inr s1, .at l), (.inr s2, a)]⟩ :: S.M, S.ρ⟩ (.ref p) (.at p) G3 _ (k p l a ra) rfl (st3.chg (k := 1) (o' := .dct [(.inr s1, .at l), (.inr s2, a)]) rfl ⟨_, upd_same, rfl, rfl, rep, trivial⟩) n3.g
/-- d[k] = e, e a new list -/
theorem ds_dputN {o i e : Expr} {pos pos' : Pos} {q : Addr} {kvs : List (Key × Ab)} {ky : Key} {T : List Ab → Prop} {k : Nat} (hu : X.A.units + 64 < cLine) (he : DN X S.rs S.M S.ρ e T) (ho : ∀ M', DE X S.rs M' S.ρ o (Is (.at q))) (hi : ∀ M', DE X S.rs M' S.ρ i (Is (kA ky)))
    (hM : S.M[k]? = some ⟨q, true, .dct kvs⟩) (hl : kvs.length ≤ 100000) (kk : ∀ q' as, T as → D.nx ⟨S.rs, ⟨q', true, .lst as⟩ :: S.M.set k ⟨q, true, .dct (putA kvs ky (.at q'))⟩, S.ρ⟩) (hs : swapsWith e (some (.Subscript o i pos')) pos.line X.env = pure false := by rfl) :
    DS X Ff S (.Assign [.Subscript o i pos'] e pos) D := fun G0 H0 => by
  have ho' : PE X o (fun σ H Q => ∃ M', tD X.K S.rs M' S.ρ (Is (.at q)) σ H Q) := ⟨fun pins s σ H Q I ⟨M', z⟩ => (ho M').run pins s σ H Q I z⟩
  have hi' : PE X i (fun σ H Q => ∃ M', tD X.K S.rs M' S.ρ (Is (kA ky)) σ H Q) := ⟨fun pins s σ H Q I ⟨M', z⟩ => (hi M').run pins s σ H Q I z⟩
  refine ps_weak (ps_dput (by omega) ho' hi' he hs) fun De σ H ⟨G, s, nx, _⟩ => ⟨G, s.loc, s.ok, fun p vs as G1 H1 ta rep e1 g1 h0 n1 => ?_⟩
  have s1 := s.push n1 rep e1 g1 h0
  refine ⟨_, G1, s1.loc, s1.ok, fun u z G2 H2 rz rep2 n2 => ?_⟩
  subst rz
  have rep2 : u = .ref q := rep2
  subst rep2
  have s2 := s1.nxt n2
  refine ⟨_, G2, s2.loc, s2.ok, fun y c G3 H3 rc rep3 n3 => ?_⟩
  subst rc
  have s3 := s2.nxt n3
  have hM1 : (⟨p, true, .lst as⟩ :: S.M : Mem)[k + 1]? = some ⟨q, true, .dct kvs⟩ := hM
  obtain ⟨_, _, ws, f1, f2, rr⟩ := s3.ok.m _ (List.mem_of_getElem? hM1)
  have hlen : ws.length = kvs.length := by rw [← List.length_map (f := (·.1)), f2, List.length_map]
  obtain ⟨p1, p2⟩ := put_rep (K := X.K) (G := G3) (k := ky) (v := .ref p) (a := .at p) rfl f2 rr
  exact ⟨q, _, rfl, by rw [rep_key rep3]; exact DPut.k f1 (Nat.lt_of_le_of_lt (by omega) (show 100000 < sizeLine by decide)), nx _ σ G3 _ (kk p as ta) (s3.chg (u := .dK (putK ws ky (.ref p))) hM1 ⟨_, upd_same, p1, p2⟩)⟩
end

/-! ### a def that makes a deck, and its call (second deck) -/
theorem deck_close2m {K : PySem.W.Frag} {D C : Addr} {rs : Rs} {M : Mem} {cells : List Int} {m : Int} {G H : Hp} (ok : Ok K rs M G H) (h1 : (⟨D, true, .dct (deckD C m)⟩ : Me) ∈ M) (h2 : (⟨C, true, .lst ((cells.map .int).map .d)⟩ : Me) ∈ M) (hl : cells.length ≤ 63) (m0 : 0 ≤ m) (m1 : m < 4611686018427387904) : (deckRs2 D C).I H := by
  obtain ⟨_, _, vs, e1, k1, r1⟩ := ok.m _ h1
  obtain ⟨_, _, ws, e2, r2⟩ := ok.m _ h2
  rw [List.map_map] at r2
  have e3 := repAll_ints r2
  subst e3
  match vs, k1, r1 with
  | [(ka, a), (kb, b)], k1, ⟨q1, q2, _⟩ =>
    have ea : a = .ref C := q1
    have eb : b = .int m := rep_int q2
    have kk : [ka, kb] = [.inr "deep", .inr "state"] := k1
    obtain ⟨kx, ky⟩ := List.cons.inj kk
    obtain ⟨ky, _⟩ := List.cons.inj ky
    subst ea eb kx ky
    exact ⟨cells, m, e1, e2, hl, m0, m1⟩
def SpecDeck2 (K : PySem.W.Frag) : Sp := fun vs H Q _ => ∃ (ns : List Int) (G : Hp) (v : V) (rs : Rs), vs = [v] ∧ Rep K G v (aScr K ns) ∧ ns.length ≤ 63 ∧ Ok K rs [] G H ∧ ∀ D C G' H', Nxt rs G H G' H' → (deckRs2 D C).I H' → G' D = none → G' C = none → H D = none → H C = none → Q (.ref D) H'
section
variable {P : Program} {w : World} {K : PySem.W.Frag} {mg : Str → Option Value} {base : Heap} {k : Nat} {f : Addr} {fd : FuncData} {ps N : List Str} {x qual : Str} {st : Stmt}
theorem fn_deck2 (F : Fun K x qual st f fd) (Sc : FnScope N ps (defScope st)) (one : ps.length = 1)
    (body : ∀ (cdv : Value) (A : Around) (outer : List Env) (s : Shared) (H0 : Hp) (E : XK), Room k (A.deeper (envOfC qual (defScope st) s.heap.objs.size f cdv)) → A.guards = some [] → ∀ (rs : Rs) (ns : List Int), ns.length ≤ 63 →
      DSs (bodyCx P w K mg base N qual st f cdv A outer s H0 E) rs.F ⟨rs, [], startA N [aScr K ns]⟩ (defBody st) ⟨fun _ => False, fun rs2 M2 a => rs2 = rs ∧ ∃ (D C : Addr) (cells : List Int) (m : Int), (⟨D, true, .dct (deckD C m)⟩ : Me) ∈ M2 ∧ (⟨C, true, .lst ((cells.map .int).map .d)⟩ : Me) ∈ M2 ∧ a = .at D ∧ cells.length ≤ 63 ∧ 0 ≤ m ∧ m < 4611686018427387904, fun _ => False, fun _ => False⟩) :
    FnG P w K mg base CX0 (k + 1) f fd ps (SpecDeck2 K) := by
  refine fun_okG F Sc (fun vs H Q E ⟨ns, G, v, rs, h, _⟩ => by rw [h, one]; rfl) fun cdv A outer s H vs Q E room gd ⟨ns, G, v, rs, hv, rep, hl, ok, kk⟩ => ?_
  subst hv
  refine ⟨_, (body cdv A outer s H E room gd rs ns hl G ⟨H, rfl⟩).nox, G, ⟨Loc.starts (show RepAll K G [v] [_] from ⟨rep, trivial⟩), ok, Lie.refl _ _ _, fun e he => absurd he List.not_mem_nil, fun b h => .inr h⟩, fun _ _ _ _ q => q.elim, fun rs2 M2 u a G' H' q rep2 ok2 l2 own => ?_, fun _ _ _ _ q => q.elim, fun _ _ _ _ q => q.elim⟩
  obtain ⟨rfl, D, C, cells, m, m1, m2, rfl, hc, b0, b1⟩ := q
  have rep2 : u = .ref D := rep2
  subst rep2
  have fr : ∀ b o, H b = some o → ¬ rs2.F b → H' b = some o := l2.h
  have out : ∀ e ∈ M2, e.mu = true → H e.p = none := fun e he hm => (own e he hm).elim id fun z => absurd z (ok2.m e he).2.1
  exact kk D C G' H' ⟨l2.g, ok2.gh, l2.h, l2.nw, ok2.i⟩ (deck_close2m ok2 m1 m2 hc b0 b1) (ok2.m _ m1).1 (ok2.m _ m2).1 (out _ m1 rfl) (out _ m2 rfl)
theorem ds_deck2 {X : Cx} {Ff : Addr → Prop} {D' : AE} {ρ : List (Option Ab)} {e : Expr} {y z : Str} {p pos' pos cpos : Pos} {ns : List Int} (i : Nat) (F : FnG X.prog X.w X.K X.mg X.base CX0 k f fd ps (SpecDeck2 X.K)) (hr : Room k X.A) (gd : X.A.guards = some []) (hm : X.mg z = some (.ref f)) (hk : PySem.W.keepIn X.K (.ref f) = true)
    (hb : Binds X.K fd ps []) (he : DE X rs0 [] ρ e (Is (aScr X.K ns))) (hl : ns.length ≤ 63) (kk : ∀ D C, D'.nx ⟨deckRs2 D C, [], ρ.set i (some (.at D))⟩) (hN : X.N.Nodup) (hg : Gl X z := by rfl) (hi : X.N[i]? = some y := by rfl) (hx : L2.Loc X.env.scope y := by first | exact Or.inl rfl | exact Or.inr rfl)
    (hs : swapsWith (.Call (.Name z p) [e] [] cpos) (some (.Name y pos')) pos.line X.env = pure false := by rfl) (hf : X.fn y = true ∨ X.env.scope.names.lookup y = some .local := by first | exact .inl rfl | exact .inr rfl)
    (hdb : (z == ("__debug__" : Str)) = false := by decide) (hst : starEach [e] X.env = (false, eval e X.env) :: starEach [] X.env := by rfl) (hpl : (backTo cpos (starEach [] X.env)).any (·.1) = false := by rfl) :
    DS X Ff ⟨rs0, [], ρ⟩ (.Assign [.Name y pos'] (.Call (.Name z p) [e] [] cpos) pos) D' := by
  intro G0 H0
  have ha : DA X rs0 [] ρ [e] (fun as => as = [aScr X.K ns]) := da_cons he da_nil hst
  refine ps_weak (ps_set hN hi hx (pe_callG (E := E0) F hr gd hg hm hk hb .nil pass0 ha hdb hst hpl) hs hf) fun De σ H h => ?_
  obtain ⟨G, s, n, _⟩ := h
  show tDA X.K rs0 [] ρ (fun as => as = [aScr X.K ns]) σ H (fun vs H1 => SpecDeck2 X.K (vs ++ []) H1 (fun v H2 => De.nx (σ.set i (some v)) H2) E0)
  refine ⟨G, s.loc, s.ok, fun vs as G1 H1 ra rep n1 => ?_⟩
  subst ra
  obtain ⟨v, e1, r⟩ := repAll_one rep
  subst e1
  have s1 := s.nxt n1
  refine ⟨ns, G1, v, rs0, rfl, r, hl, s1.ok, fun D C G' H' n2 id_ g1 g2 h1 h2 => ?_⟩
  have s2 := s1.nxt n2
  have back : ∀ b, H1 b = none → H0.1 b = none := fun b hb => by
    cases q : H0.1 b with
    | none => rfl
    | some u =>
      obtain ⟨o', e'⟩ := s1.lie.al b u q
      rw [hb] at e'
      cases e'
  refine n _ _ G' H' (kk D C) ⟨s2.loc.set (a := .at D) rfl i, ⟨s2.ok.gh, fun b f => ?_, id_, fun e he => absurd he List.not_mem_nil, fun _ _ _ _ z => by simp at z⟩, s2.lie, fun e he => absurd he List.not_mem_nil, fun b f => ?_⟩
  · rcases f with rfl | rfl
    · exact g1
    · exact g2
  · rcases f with rfl | rfl
    · exact .inl (back _ h1)
    · exact .inl (back _ h2)
end
end HW
/-! Own layer, part T: lists taken apart, found in; three names at once. -/
namespace HW
open PySem PySem.Spec PyProof.Rows L2 RZ
section
variable {X : Cx} {rs : Rs} {M : Mem} {ρ : List (Option Ab)} {o e : Expr} {p pos apos : Pos} {R Ra : Ab → Prop}
theorem dg_unl {ts : List Expr} {is : List Nat} {k : Nat} (hc : X.calm = true) (h : DGs X ts is) (hn : (assignEach ts X.env).length = is.length := by rfl) (hst : (assignEach ts X.env).findIdx? (·.1) = none := by rfl) :
    DG X (.Tuple ts k pos) is (fun a ρ ρ' => ∃ ds, a = aL ds ∧ ds.length = is.length ∧ ρ' = setAll ρ is (ds.map .d)) :=
  pg_weak (pg_unl hc h hn hst) fun v σ H Q ⟨G, a, ρ, ρ', l, r, e, t, kk⟩ => by
    obtain ⟨ds, rfl, hl, rfl⟩ := t
    have r : Dp X.K G v (.list ds) := r
    cases r with
    | lst hs ha =>
      have ra := repAll_dp.mpr ha
      refine ⟨_, _, rfl, sqL_same e (.inl (.inl hs)), by rw [ra.length, List.length_map, hl], G, _, ρ, l, ra, by rw [List.length_map, hl], kk⟩
theorem dn_slLR {a : Expr} {lo hi : Option Expr} {p2 : Pos} {ol oh : Option Int} {T : List Ab → Prop} (ha : DE X rs M ρ a Ra) (hs : ∀ y, Ra y → ∃ xs, SeqL X.K rs M y xs ∧ T (cutA xs ol oh)) (hl : DO X rs M ρ lo (fun o => o = ol)) (hh : DO X rs M ρ hi (fun o => o = oh)) :
    DN X rs M ρ (.Subscript a (.Slice lo hi none p2) pos) T :=
  pe_weak (pe_slice sl_list ha hl hh) fun σ H Q ⟨G, l, ok, k⟩ => tD_go l ok fun v y G1 H1 ry rep1 l1 ok1 n1 => ⟨G1, l1, ok1, fun o1 G2 H2 e1 n2 => ⟨G2, l1.same n2.g, ok1.nxt n2, fun o2 G3 H3 e2 n3 => by
    subst e1 e2
    have ok2 := ok1.nxt n2
    have ok3 := ok2.nxt n3
    obtain ⟨xs, hsq, t⟩ := hs y ry
    obtain ⟨q, ws, rfl, s, ra⟩ := hsq.get ok3 (rep1.same (n2.g.trans n3.g))
    exact ⟨q, ws, rfl, s, fun z hz => k z _ _ G3 _ t (ra.cut _ _) upd_same (ok3.gnone hz) (fresh_of ok (n1.trans (n2.trans n3 ok1) ok) hz) ((n1.trans (n2.trans n3 ok1) ok).trans (Nxt.newM ok3 hz) ok)⟩⟩⟩
/-- l.index(x), x of ints in a tuple -/
theorem de_index {ds : List PyData} {d z : PyData} {j : Nat} (hu : X.A.units + 65 < cLine) (ho : DE X rs M ρ o (Is (aL ds))) (he : DE X rs M ρ e (Is (.d d))) (sl : SeqAt.shaped (.list ds) = true) (sd : SeqAt.shaped d = true) (hz : ds[j]? = some z) (hj : PyData.eqv z d = true) (hno : ∀ m z', m < j → ds[m]? = some z' → PyData.eqv z' d = false)
    (hbase : attributeBase o "index" X.env (eval o X.env) = eval o X.env := by rfl)
    (hfew : ((backTo pos (starEach [e] X.env)).all (fun x => !x.1) && (backToKw pos (keywordEach [] X.env)).all (fun x => x.1.isSome) && decide ([e].length + ([] : List Keyword).length + (if ([] : List Keyword).isEmpty then 0 else 1) < 30)) = true := by rfl)
    (hline : (apos.endLine == pos.line) = true := by rfl) (hs : starEach [e] X.env = (false, eval e X.env) :: starEach [] X.env := by rfl) (hplain : (backTo pos (starEach [] X.env)).any (·.1) = false := by rfl) :
    DE X rs M ρ (.Call (.Attribute o "index" apos) [e] [] pos) (Is (aI (j : Int))) :=
  pe_weak (pe_bm PySem.F.plainAttrs_list PySem.F.slot_list_index PySem.F.type_list_index (mt_indexD hu) ho (da_cons he da_nil hs) hbase hfew hline hs hplain) fun σ H Q ⟨G, l, ok, k⟩ => tD_go l ok fun v y G1 H1 ry rep1 l1 ok1 n1 => by
    subst ry
    obtain ⟨a, ws, rfl, s, _⟩ := (seqM_l (K := X.K) (rs := rs) (M := M) ds).l.get ok1 rep1
    refine ⟨.inl ⟨rfl, _, s⟩, G1, l1, ok1, fun vs as G2 H2 ra rep2 n2 => ?_⟩
    subst ra
    obtain ⟨u, rfl, ru⟩ := repAll_one rep2
    have ok2 := ok1.nxt n2
    exact ⟨a, u, d, ds, j, z, rfl, rfl, (dp_same ok2.gh _ _ (dp_same n2.g _ _ rep1)).old, (dp_same ok2.gh _ _ ru).old, sl, sd, hz, hj, hno, k _ _ G2 H2 rfl (Dp.int _) (n1.trans n2 ok)⟩
end
section
variable {X : Cx} {Ff : Addr → Prop} {S : Sta} {D : AE}
/-- a, b, c = e, f, g -/
theorem ds_par3 {i j l : Nat} {x y z : Str} {a b c : Expr} {pa pb pc pt pt2 pos : Pos} {kt k2 : Nat} (hc : X.calm = true) (hN : X.N.Nodup) (ha : DAX X Ff S [a, b, c] (fun S' as => ∃ u v w, as = [u, v, w] ∧ D.nx ⟨S'.rs, S'.M, ((S'.ρ.set i (some u)).set j (some v)).set l (some w)⟩))
    (hi : X.N[i]? = some x := by rfl) (hj : X.N[j]? = some y := by rfl) (hl : X.N[l]? = some z := by rfl) (hij : i ≠ j := by decide) (hil : i ≠ l := by decide) (hjl : j ≠ l := by decide) (hx : X.env.scope.names.lookup x = some .local := by rfl) (hy : X.env.scope.names.lookup y = some .local := by rfl) (hz : X.env.scope.names.lookup z = some .local := by rfl)
    (hw : swappedStores [.Tuple [.Name x pa, .Name y pb, .Name z pc] kt pt] (.Tuple [a, b, c] k2 pt2) X.env = pure (some [x, y, z]) := by rfl)
    (hs : swapsWithSole [.Tuple [.Name x pa, .Name y pb, .Name z pc] kt pt] (.Tuple [a, b, c] k2 pt2) pos.line X.env = pure false := by rfl) : DS X Ff S (.Assign [.Tuple [.Name x pa, .Name y pb, .Name z pc] kt pt] (.Tuple [a, b, c] k2 pt2) pos) D := fun G0 H0 =>
  ps_weak (ps_par3 hc hN hi hj hl hij hil hjl hx hy hz (ha G0 H0) hw hs) fun De σ H ⟨G, s, n, _⟩ => ⟨G, s, fun S' vs as G' H' t reps s' _ => by
    obtain ⟨u, v, w, rfl, q⟩ := t
    match vs, reps with
    | [w1, w2, w3], ⟨r1, r2, r3, _⟩ => exact ⟨w1, w2, w3, rfl, n _ _ G' H' q (((s'.set r1).set r2).set r3)⟩⟩
end
/-! ### tuples of ints in a list -/
theorem shaped_tups (l : List (List Int)) : SeqAt.shaped (.list (tupsD l)) = true := by
  have key : ∀ l : List (List Int), PyData.canLayAll0 (tupsD l) = true ∧ PyData.depthAll (tupsD l) ≤ 1 := by
    intro l
    induction l with
    | nil => exact ⟨by simp [tupsD, PyData.canLayAll0], by simp [tupsD, PyData.depthAll]⟩
    | cons a l ih =>
      obtain ⟨h1, h2⟩ := ih
      obtain ⟨a1, a2⟩ := lay_ints a
      unfold tupsD at h1 h2 ⊢
      simp only [List.map_cons, PyData.canLayAll0, PyData.depthAll, PyData.canLay0, PyData.depth, h1, a1, a2]
      exact ⟨rfl, by omega⟩
  obtain ⟨h1, h2⟩ := key l
  unfold SeqAt.shaped
  simp only [PyData.canLay0, PyData.depth, h1]
  simp
  omega
theorem eqv_ints_ne : ∀ {a b : List Int}, a ≠ b → PyData.eqvAll (a.map .int) (b.map .int) = false
  | [], [], h => absurd rfl h
  | [], _ :: _, _ => by simp [PyData.eqvAll]
  | _ :: _, [], _ => by simp [PyData.eqvAll]
  | x :: a, y :: b, h => by
    simp only [List.map_cons, PyData.eqvAll]
    by_cases z : x = y
    · subst z
      rw [eqv_ints_ne (a := a) (b := b) fun q => h (by rw [q])]
      simp
    · have : PyData.eqv (.int x) (.int y) = false := by simp [PyData.eqv, z]
      rw [this]
      rfl
end HW
/-! Own layer, part U: a list of our own is locked; min, max of two. -/
namespace HW
open PySem PySem.Spec PyProof.Rows L2 RZ
section
variable {X : Cx} {rs : Rs} {M : Mem} {ρ : List (Option Ab)} {e f : Expr} {p pos : Pos} {i j : Int}
theorem de_min2 (hc : X.calm = true) (hm : X.mg "min" = none) (ha : DE X rs M ρ e (Is (aI i))) (hb : DE X rs M ρ f (Is (aI j))) (hg : Gl X "min" := by rfl) (he : starEach [e, f] X.env = (false, eval e X.env) :: starEach [f] X.env := by rfl) (hf : starEach [f] X.env = (false, eval f X.env) :: starEach [] X.env := by rfl)
    (hpl : (backTo pos (starEach [f] X.env)).any (·.1) = false := by rfl) : DE X rs M ρ (.Call (.Name "min" p) [e, f] [] pos) (Is (aI (if j < i then j else i))) :=
  de_callB (call_min2 hc) hg hm (by decide +kernel) (da_cons ha (da_cons hb da_nil hf) he) (fun as e1 => fun G H vs Q ok reps k => by
    subst e1
    match vs, reps with
    | [v, u], ⟨r1, r2, _⟩ =>
      rw [rep_int r1, rep_int r2]
      exact ⟨i, j, rfl, k _ _ G H rfl (Dp.int _) (Nxt.rfl ok)⟩) (hs := he) (hpl := hpl)
theorem de_max2 (hc : X.calm = true) (hm : X.mg "max" = none) (ha : DE X rs M ρ e (Is (aI i))) (hb : DE X rs M ρ f (Is (aI j))) (hg : Gl X "max" := by rfl) (he : starEach [e, f] X.env = (false, eval e X.env) :: starEach [f] X.env := by rfl) (hf : starEach [f] X.env = (false, eval f X.env) :: starEach [] X.env := by rfl)
    (hpl : (backTo pos (starEach [f] X.env)).any (·.1) = false := by rfl) : DE X rs M ρ (.Call (.Name "max" p) [e, f] [] pos) (Is (aI (if j > i then j else i))) :=
  de_callB (call_max2 hc) hg hm (by decide +kernel) (da_cons ha (da_cons hb da_nil hf) he) (fun as e1 => fun G H vs Q ok reps k => by
    subst e1
    match vs, reps with
    | [v, u], ⟨r1, r2, _⟩ =>
      rw [rep_int r1, rep_int r2]
      exact ⟨i, j, rfl, k _ _ G H rfl (Dp.int _) (Nxt.rfl ok)⟩) (hs := he) (hpl := hpl)
end
section
variable {X : Cx} {Ff : Addr → Prop} {D : AE} {rs : Rs} {M : Mem} {ρ : List (Option Ab)} {sts : List Stmt}
/-- a list of our own is read only from here on -/
theorem ds_freeze {i : Nat} {q : Addr} {ds : List PyData} (h : ρ[i]? = some (some (.at q))) (hF : ∀ b, Ff b → rs.F b) (run : DSs X Ff ⟨rs, M, ρ.set i (some (aL ds))⟩ sts D) : DSs X Ff ⟨rs, ⟨q, true, .lst (ds.map .d)⟩ :: M, ρ⟩ sts D := fun G0 H0 =>
  pss_weak (run G0 H0) fun De σ H ⟨G, s, rest⟩ => by
    obtain ⟨v, e, rep⟩ := s.loc.get h
    have rep : v = .ref q := rep
    subst rep
    obtain ⟨g1, nf, vs, e1, ra⟩ := s.ok.m _ List.mem_cons_self
    have g1 : G q = none := g1
    have e1 : H q = some (.lst vs) := e1
    have h0 : H0.1 q = none := by
      rcases s.own _ List.mem_cons_self rfl with z | z
      · exact z
      · exact absurd (hF q z) nf
    have up : Same G (upd G q (.lst vs)) := fun b u eb => by
      rw [upd_ne (ne_of_none eb g1)]
      exact eb
    have out : ∀ e ∈ M, e.p ≠ q := fun e he z => by
      obtain ⟨j, hj⟩ := List.mem_iff_getElem?.mp he
      have := s.ok.nd (j + 1) 0 e _ hj rfl z
      omega
    have es : σ.set i (some (.ref q)) = σ := by
      refine List.ext_getElem? fun k => ?_
      by_cases z : k = i
      · rw [z, List.getElem?_set_self (List.getElem?_eq_some_iff.mp e).1, e]
      · rw [List.getElem?_set_ne (fun y => z y.symm)]
    have loc : Loc X.K (upd G q (.lst vs)) σ (ρ.set i (some (aL ds))) := by
      have := (s.loc.same up).set (v := .ref q) (a := aL ds) (Dp.lst upd_same (dpAll_same up _ _ (repAll_dp.mp ra))) i
      rwa [es] at this
    refine ⟨upd G q (.lst vs), ⟨loc, ⟨fun b u eb => ?_, fun b f => ?_, s.ok.i, fun e he => ?_, fun j k e f h1 h2 h3 => ?_⟩, ⟨s.lie.g.trans up, s.lie.h, s.lie.al, fun b u eb => ?_⟩, fun e he hm => s.own e (List.mem_cons_of_mem _ he) hm, s.fr⟩, rest⟩
    · by_cases hb : b = q
      · subst hb
        rw [upd_same] at eb
        rw [e1, eb]
      · rw [upd_ne hb] at eb
        exact s.ok.gh _ _ eb
    · rw [upd_ne (show b ≠ q from fun z => nf (show rs.F q from z ▸ f))]
      exact s.ok.sep b f
    · obtain ⟨a1, a2, a3⟩ := s.ok.m e (List.mem_cons_of_mem _ he)
      exact ⟨by rw [upd_ne (out e he)]; exact a1, a2, a3.same up fun o ho => ho⟩
    · have := s.ok.nd (j + 1) (k + 1) e f h1 h2 h3
      omega
    · by_cases hb : b = q
      · subst hb
        exact .inr h0
      · rw [upd_ne hb] at eb
        exact s.lie.nw _ _ eb
end
end HW
/-! Own layer, part V: a tuple taken once; a number in a tuple; a promise used for less. -/
namespace HW
open PySem PySem.Spec PyProof.Rows L2 RZ
set_option maxHeartbeats 4000000 in
theorem tuple_mul1 (l : Addr) (items : Array Value) (n : Nat) (dd : Option Addr) (sl : Array (Option Value)) (u : Tok) :
    Meets (Builtin.«tuple.__mul__» ⟨[.ref l, .int 1 u], []⟩) (fun _ R s => s.heap.get? l = some { cls := .type "tuple", dict := dd, data := .seq items n, slots := sl } ∧ R (.ok (.ret (Value.ref l))) s) :=
  .of_wp fun prog w A R s h => by
    obtain ⟨hp, g, d, tk, os⟩ := s
    obtain ⟨hl, h⟩ := h
    have f1 := AutoSeq1.idx_int
    have c0 : (decide ((1 : Int) < -(2 ^ 63)) || decide ((1 : Int) ≥ 2 ^ 63)) = false := by decide
    have c1 : (items.isEmpty || (1 : Int) == 1) = true := by rw [show ((1 : Int) == 1) = true from rfl, Bool.or_true]
    wp_walk using wpAny_loadPart' hl
    repeat (first
      | (refine wpAny_ite_false (decide_eq_false (by rw [c0]; exact Bool.false_ne_true)) ?_; wp_walk using wpAny_loadPart' hl)
      | (refine wpAny_ite_true (decide_eq_true c1) ?_; wp_walk using wpAny_loadPart' hl))
    exact ⟨_, rfl, h⟩
def rRepT1 (K : PySem.W.Frag) : R2 := fun x y H Q => ∃ l xs, x = .ref l ∧ y = .int 1 ∧ SqT K H l xs ∧ Q (.ref l) H
theorem op_repT1 {X : Cx} : OpR X (binaryOp .Mult) (rRepT1 X.K) := by
  intro pins s σ H x y v u Q I rx ry h
  obtain ⟨l, xs, rfl, rfl, hT, q⟩ := h
  cases rx
  obtain ⟨t, rfl⟩ := ry
  obtain ⟨its, r, ⟨⟨cls, dd, data, sl⟩, ho, hc, n, hd⟩, hs⟩ := I.tuple hT
  simp only at hc hd
  subst hc hd
  exact wpAny_binaryOp_repeat_ref (T := "tuple") (U := "int") (by decide) ⟨_, ho, rfl⟩ (fun s' => typeIs_int s' 1 t) noFill_tuple_mul PySem.F.fills_int_mul PySem.F.slot_int_rmul repeat_tuple PySem.F.slot_int_index.lookup
    (call_meets PySem.F.slot_int_rmul (typeIs_int s 1 t) PySem.F.entry_int_rmul (PySem.F.args_int_rmul_2 _ _) (int_rmul_tuple 1 t l its.toArray n dd sl)
      ⟨ho, rfl, ⟨_, ho, rfl⟩, call_meets PySem.F.slot_tuple_mul ⟨_, ho, rfl⟩ PySem.F.entry_tuple_mul (PySem.F.args_tuple_mul_2 _ _) (tuple_mul1 l its.toArray n dd sl t) ⟨ho, .ref l, H, I, rfl, q⟩⟩)
section
variable {X : Cx} {rs : Rs} {M : Mem} {ρ : List (Option Ab)} {a b e : Expr} {es : List Expr} {p pos : Pos} {x : Str} {R : Ab → Prop}
theorem de_repT1 {ds : List PyData} (ha : DE X rs M ρ a (Is (aT ds))) (hb : DE X rs M ρ b (Is (aI 1))) : DE X rs M ρ (.BinOp a .Mult b pos) (Is (aT ds)) :=
  de_op op_repT1 ha hb fun y z e1 e2 => fun G H v u Q ok r1 r2 kk => by
    subst e1 e2
    obtain ⟨p1, w1, rfl, s1, ra1⟩ := tup_get ok r1
    rw [rep_int r2]
    exact ⟨p1, w1, rfl, rfl, s1, kk _ _ G H rfl r1 (Nxt.rfl ok)⟩
/-- (a, ..) * k, also once -/
theorem de_repTn {ds : List PyData} {k : Nat} (ha : DE X rs M ρ a (Is (aT ds))) (hb : DE X rs M ρ b (Is (aI (k : Int)))) (hd : ds ≠ []) (h1 : 1 ≤ k) (h3 : k ≤ 1000) (hl : ds.length ≤ 1000) : DE X rs M ρ (.BinOp a .Mult b pos) (Is (aT (List.replicate k ds).flatten)) := by
  by_cases z : k = 1
  · subst z
    exact de_is (de_repT1 ha hb) (by simp)
  · exact de_is (de_repT ha hb hd (by omega) (by omega) hl) (by rw [Int.toNat_natCast])
theorem flat_ints : ∀ ws : List Int, (ws.map V.int).all flatV = true
  | [] => rfl
  | w :: ws => by
    rw [List.map_cons, List.all_cons, flat_ints ws]
    rfl
theorem dpAll_ints {K : PySem.W.Frag} {G : Hp} : ∀ {ws : List Int} {vs : List V}, DpAll K G vs (ws.map .int) → vs = ws.map V.int
  | [], _, h => by cases h; rfl
  | _ :: ws, _, h => by
    cases h with
    | cons h1 h2 =>
      cases h1
      rw [dpAll_ints h2]
      rfl
theorem inV_ints (i : Int) : ∀ ws : List Int, inV (.int i) (ws.map V.int) = decide (i ∈ ws)
  | [] => by simp [inV]
  | w :: ws => by
    have ih := inV_ints i ws
    unfold inV at ih ⊢
    rw [List.map_cons, List.any_cons, ih]
    show ((w == i) || _) = _
    by_cases z : i = w
    · subst z
      simp
    · have : (w == i) = false := beq_eq_false_iff_ne.mpr fun q => z q.symm
      rw [this]
      simp [z]
/-- i in (..) -/
theorem dt_inI {i : Int} {ws : List Int} (ha : DE X rs M ρ a (Is (aI i))) (hb : DE X rs M ρ b (Is (aT (ws.map .int)))) (hmk : behindInMarks .In b = false := by rfl) : DT X rs M ρ (.Compare a [.In] [b] pos) (fun c => c = decide (i ∈ ws)) :=
  dt_cmp op_in_seq ha hb (fun _ _ e1 e2 => by
    subst e1 e2
    refine fun G H v u Q ok r1 r2 k => ?_
    rw [rep_int r1]
    have r2 : Dp X.K G u (.tuple (ws.map .int)) := r2
    cases r2 with
    | tup st al =>
      rw [dpAll_ints al] at st
      refine ⟨_, _, rfl, .inr (sqT_same ok.gh st), rfl, flat_ints ws, ?_⟩
      rw [if_neg (by decide), inV_ints]
      exact k _ _ G H ⟨_, rfl, rfl⟩ (Dp.bl _) (Nxt.rfl ok)) hmk
/-- a call of which less is wanted than is promised -/
theorem de_callI {T : List Ab → Prop} {S : Rs → Mem → List Ab → (Ab → Prop) → Prop} {CX : CXT} {k : Nat} {f : Addr} {fd : FuncData} {ps : List Str} {E : XK} (F : FnG X.prog X.w X.K X.mg X.base CX k f fd ps (Spec X.K S)) (hr : Room k X.A) (gd : X.A.guards = some []) (hg : Gl X x) (hm : X.mg x = some (.ref f))
    (hk : PySem.W.keepIn X.K (.ref f) = true) (hb : Binds X.K fd ps []) (hx : Passes CX X E) (ha : DA X rs M ρ (e :: es) T) (h : ∀ as, T as → ∃ R0, S rs [] as R0 ∧ ∀ a, R0 a → R a)
    (hdb : (x == ("__debug__" : Str)) = false := by decide) (he : starEach (e :: es) X.env = (false, eval e X.env) :: starEach es X.env := by rfl) (hpl : (backTo pos (starEach es X.env)).any (·.1) = false := by rfl) : DE X rs M ρ (.Call (.Name x p) (e :: es) [] pos) R :=
  de_call (E := E) (S := fun rs M as R => ∃ R0, S rs M as R0 ∧ ∀ a, R0 a → R a) (F.imp fun vs H Q E ⟨rs, M, as, R, G, ⟨R0, t, w⟩, mu, rep, ok, kk⟩ => ⟨rs, M, as, R0, G, t, mu, rep, ok, fun z a G' H' r => kk z a G' H' (w a r)⟩) hr gd hg hm hk hb hx ha h hdb he hpl
end
end HW
/-! Own layer, part W: defs that hand back a new list which the caller may change; lists in turn, if .. else. -/
namespace HW
open PySem PySem.Spec PyProof.Rows L2 RZ
/-- a def's promise: a new list -/
def SpecN (K : PySem.W.Frag) (T : Rs → Mem → List Ab → (List Ab → Prop) → Prop) : Sp := fun vs H Q _ => ∃ rs M as R G, T rs M as R ∧ (∀ e ∈ M, e.mu = false) ∧ RepAll K G vs as ∧ Ok K rs M G H ∧
  ∀ p ws bs G' H', R bs → RepAll K G' ws bs → H' p = some (.lst ws) → G' p = none → H p = none → Nxt rs G H G' H' → Q (.ref p) H'
section
variable {X : Cx} {rs : Rs} {M : Mem} {ρ : List (Option Ab)} {a b e o : Expr} {es : List Expr} {pos pos' apos p : Pos} {x : Str}
theorem dn_call {T : List Ab → Prop} {R : List Ab → Prop} {S : Rs → Mem → List Ab → (List Ab → Prop) → Prop} {CX : CXT} {k : Nat} {f : Addr} {fd : FuncData} {ps : List Str} {E : XK} (F : FnG X.prog X.w X.K X.mg X.base CX k f fd ps (SpecN X.K S)) (hr : Room k X.A) (gd : X.A.guards = some []) (hg : Gl X x) (hm : X.mg x = some (.ref f))
    (hk : PySem.W.keepIn X.K (.ref f) = true) (hb : Binds X.K fd ps []) (hx : Passes CX X E) (ha : DA X rs M ρ (e :: es) T) (h : ∀ as, T as → S rs [] as R)
    (hdb : (x == ("__debug__" : Str)) = false := by decide) (he : starEach (e :: es) X.env = (false, eval e X.env) :: starEach es X.env := by rfl) (hpl : (backTo pos (starEach es X.env)).any (·.1) = false := by rfl) : DN X rs M ρ (.Call (.Name x p) (e :: es) [] pos) R :=
  pe_weak (pe_callG (E := E) F hr gd hg hm hk hb .nil hx ha hdb he hpl) fun σ H Q ⟨G, l, ok, k⟩ => ⟨G, l, ok, fun vs as G1 H1 ra rep n => ⟨rs, [], as, R, G1, h as ra, fun _ z => absurd z List.not_mem_nil, by rw [List.append_nil]; exact rep, (ok.nxt n).sub (fun _ z => absurd z List.not_mem_nil) (fun _ _ _ _ z => by simp at z),
    fun q ws bs G2 H2 r rep2 e2 g2 h2 n2 => k q ws bs G2 H2 r rep2 e2 g2 (fresh_of ok n h2) (n.trans n2 ok)⟩⟩
theorem dn_ifR {T : Bool → Prop} {R : List Ab → Prop} {c : Expr} (hc : DT X rs M ρ c T) (ha : T true → DN X rs M ρ a R) (hb : T false → DN X rs M ρ b R) : DN X rs M ρ (.IfExp c a b pos) R := by
  have ha' : PE X a (fun σ H Q => T true ∧ tDN X.K rs M ρ R σ H Q) := ⟨fun pins s σ H Q I h => (ha h.1).run pins s σ H Q I h.2⟩
  have hb' : PE X b (fun σ H Q => T false ∧ tDN X.K rs M ρ R σ H Q) := ⟨fun pins s σ H Q I h => (hb h.1).run pins s σ H Q I h.2⟩
  refine pe_weak (pe_ifExp hc ha' hb') fun σ H Q ⟨G, l, ok, k⟩ => ⟨G, l, ok, fun t G1 H1 ht n => ?_⟩
  have ok1 := ok.nxt n
  cases t with
  | true => exact iteT ⟨ht, G1, l.same n.g, ok1, fun q ws bs G2 H2 r rep e2 g2 h2 n2 => k q ws bs G2 H2 r rep e2 g2 (fresh_of ok n h2) (n.trans n2 ok)⟩
  | false => exact iteF ⟨ht, G1, l.same n.g, ok1, fun q ws bs G2 H2 r rep e2 g2 h2 n2 => k q ws bs G2 H2 r rep e2 g2 (fresh_of ok n h2) (n.trans n2 ok)⟩
end
section
variable {P : Program} {w : World} {K : PySem.W.Frag} {mg : Str → Option Value} {base : Heap} {k : Nat} {f : Addr} {fd : FuncData} {ps N : List Str} {x qual : Str} {st : Stmt} {T : Rs → Mem → List Ab → (List Ab → Prop) → Prop}
theorem fn_goN (F : Fun K x qual st f fd) (Sc : FnScope N ps (defScope st)) (len : ∀ rs M as R, T rs M as R → as.length = ps.length)
    (body : ∀ (cdv : Value) (A : Around) (outer : List Env) (s : Shared) (H0 : Hp) (E : XK), Room k (A.deeper (envOfC qual (defScope st) s.heap.objs.size f cdv)) → A.guards = some [] → ∀ rs M as R, T rs M as R → (∀ e ∈ M, e.mu = false) →
      DSs (bodyCx P w K mg base N qual st f cdv A outer s H0 E) rs.F ⟨rs, M, startA N as⟩ (defBody st) ⟨fun _ => False, fun rs2 M2 a => rs2 = rs ∧ ∃ q bs, a = .at q ∧ (⟨q, true, .lst bs⟩ : Me) ∈ M2 ∧ R bs, fun _ => False, fun _ => False⟩) : FnG P w K mg base CX0 (k + 1) f fd ps (SpecN K T) := by
  refine fun_okG F Sc (fun vs H Q E ⟨rs, M, as, R, G, t, _, r, _⟩ => by rw [r.length]; exact len rs M as R t) fun cdv A outer s H vs Q E room gd ⟨rs, M, as, R, G, t, ro, reps, ok, kk⟩ => ?_
  have run := body cdv A outer s H E room gd rs M as R t ro
  refine ⟨_, (run G ⟨H, rfl⟩).nox, G, ⟨Loc.starts reps, ok, Lie.refl _ _ _, fun e he hm => absurd hm (by rw [ro e he]; decide), fun b f => .inr f⟩, fun S' σ' G' H' q s' => q.elim, fun rs2 M2 v a G' H' ⟨q, p, bs, ea, hp, r⟩ rep ok2 l2 own => ?_, fun _ _ _ _ q => q.elim, fun _ _ _ _ q => q.elim⟩
  subst q ea
  have rep : v = .ref p := rep
  subst rep
  obtain ⟨g1, nf, ws, e1, r1⟩ := ok2.m _ hp
  refine kk p ws bs G' H' r r1 e1 g1 ?_ ⟨l2.g, ok2.gh, l2.h, l2.nw, ok2.i⟩
  rcases own _ hp rfl with z | z
  · exact z
  · exact absurd z nf
end
end HW
/-! Own layer, part X: an own exception over ValueError whose __init__ says super().__init__(text), made. -/
namespace HW
open PySem PySem.Spec PyProof.Rows L2 RZ PySem.W PySem.Calls
/-- the body of such an __init__ -/
def supBody (txt : Str) (kk : Nat) (p0 p1 p2 p3 p4 p5 : Pos) : List Stmt := [.Expr (.Call (.Attribute (.Call (.Name "super" p0) [] [] p1) "__init__" p2) [.Constant (.str txt) kk p3] [] p4) p5]
/-- the call in it is a method's call -/
def SupEv (fd : FuncData) (fI : Addr) (txt : Str) (kk : Nat) (p0 p1 p2 p3 p4 : Pos) : Prop := ∀ L : Addr, ∃ pl : Sem Bool, eval (.Call (.Attribute (.Call (.Name "super" p0) [] [] p1) "__init__" p2) [.Constant (.str txt) kk p3] [] p4) (callEnv fd L fI) = (do
      let ov ← attributeBase (.Call (.Name "super" p0) [] [] p1) "__init__" (callEnv fd L fI) (eval (.Call (.Name "super" p0) [] [] p1) (callEnv fd L fI))
      standAt p2.atName
      let (f, first) ← holding [ov] (getMethod ov "__init__" pl)
      callWith p4 f first (backTo p4 (starEach [.Constant (.str txt) kk p3] (callEnv fd L fI))) [])
/-- what the written part says of such a class -/
structure SupC (P : Program) (K : Frag) (mg : Str → Option Value) (C : Addr) : Prop where
  oex : OexC K C
  ex : ∃ (fI cc cda : Addr) (qual : Str) (params : Arguments) (scope : Scope) (dV kV doc pm ct oc : Value) (an od : Option Addr) (osl : Array (Option Value)) (txt : Str) (kk : Nat) (p0 p1 p2 p3 p4 p5 : Pos) (ar : Arg),
    findIn K (.ref C) "__init__" = some (some (.ref fI)) ∧ typeIn K (.ref fI) = some (.type "function") ∧
    K.lookup fI = some ⟨oc, od, .func (ksFn "__init__" qual params (supBody txt kk p0 p1 p2 p3 p4 p5) scope dV kV doc pm an (.ref cda) ct cc), osl⟩ ∧ codeIn K (.ref cda) qual = true ∧
    (params.posonlyargs ++ params.args).head? = some ar ∧ (∀ a, bindArgs (ksFn "__init__" qual params (supBody txt kk p0 p1 p2 p3 p4 p5) scope dV kV doc pm an (.ref cda) ct cc) ⟨[a], []⟩ = pure [(ar.arg, a)]) ∧
    scope.names.lookup ar.arg = some .local ∧ scope.names.lookup ("super" : Str) = some .globalImplicit ∧ scope.names.lookup ("__class__" : Str) = some .free ∧ (∀ x ∈ scope.names, x.2 ≠ .cell) ∧
    scope.isCoroutine = false ∧ scope.isGenerator = false ∧ scope.kind = .function ∧
    (∃ ccl cdd vs ccs file tf, K.lookup cda = some ⟨ccl, cdd, .fields vs, ccs⟩ ∧ vs[2]? = some (.str file tf) ∧ ((P.main.file : Str) == file) = true) ∧
    (∃ cl cld csl, K.lookup cc = some ⟨cl, cld, .cell (some (.ref C)), csl⟩) ∧
    SupEv (ksFn "__init__" qual params (supBody txt kk p0 p1 p2 p3 p4 p5) scope dV kV doc pm an (.ref cda) ct cc) fI txt kk p0 p1 p2 p3 p4
  top : (P.main.scope.names.lookup ("super" : Str)).isSome = false
  sup : mg "super" = none
  opq : nsIn K cStatics "thirdparty.any" = some none
  alo : ks_superIn K C C "__init__" = some (some (.builtin "ValueError.__init__"))
  sub : subIn K (.ref C) (.type "ValueError") = some true
  slf : mroIn K C (.ref C) = some true
section
variable {prog : Program} {w : World} {A : Around} {E : Value → Shared → Prop} {K : Frag} {mg mb : Str → Option Value} {C : Addr}
theorem exc_ne {h : Heap} {cd : ClassData} {x : Addr} {ox : Obj} (X : K.In h) (hx : h.get? x = some ox) (hn : ∀ c, ox.data ≠ .cls c) (hc : clsIn K C = some cd) : x ≠ C := by
  rintro rfl
  unfold clsIn at hc
  split at hc
  · rename_i c d cd' sl ho
    have e := X _ _ ho
    rw [hx] at e
    cases e
    exact hn _ rfl
  · cases hc
theorem mw_call {h : Heap} {g : Array GenState} {d : Drawn} {t : Nat} {os : OsState} {u e t0 : Addr} {rest : List Value} {Q : Value → Shared → Prop} {nm q : Str} {N : Addr} {bs bm : List Value} {hdct : Bool} {sn : List Str} {sub : List Value} {ab : Bool} {col : Option Bool} {dd : Option Addr} {k0 k1 k2 k3 k5 : Option Value}
    (hC : h.get? C = some (excClassObj nm q C N bs bm hdct sn sub ab col dd k0 k1 k2 k3 k5 "ValueError.__new__")) (he : h.get? e = some (PySem.HandSPX.excO C t0)) (hu : h.get? u = some (kxs_mw "ValueError.__init__" e)) (hz : rest.length ≤ sizeLine)
    (hq : ∀ h' t1, (∀ b o, b ≠ e → h.get? b = some o → h'.get? b = some o) → h'.get? e = some (PySem.HandSPX.excO C t1) → Q .none ⟨h', g, d, t, os⟩) : wpAny (model prog w) A (call (.ref u) rest) Q E ⟨h, g, d, t, os⟩ := by
  refine wpAny_call (codeAny_of_tree ?_)
  show wpAny _ A.in1 (callAny (.ref u) ⟨rest, []⟩) _ _ _
  simp only [callAny]
  refine wpAny_bind (wpAny_load hu ?_)
  simp only [kxs_mw, show (Value.type "method-wrapper" == Value.type "method" || Value.type "method-wrapper" == Value.type "builtin_function_or_method" || Value.type "method-wrapper" == Value.type "method-wrapper") = true by decide, if_true]
  refine KFB.if_so (by decide) ?_
  refine wpAny_bind (check_bound_init F.excBase_ValueError.toExcCallFacts hC he rfl ?_)
  refine wpAny_bind (wpAny_pure (wpAny_pure ?_))
  refine ⟨plainId_quiet F.excBase_ValueError.init.plain _, codeAny_builtin F.excBase_ValueError.initEntry ?_⟩
  exact exc_init_tree (cls := .ref C) (t0 := t0) (dv := none) (c2 := .none) (c3 := .none) (b4 := .bool false) he hz fun h' k e' _ => hq h' _ k e'
set_option maxHeartbeats 4000000 in
theorem sup_new {s : Shared} {Q : Value → Shared → Prop} (S : SupC prog K mg C) (X : K.In s.heap) (lim : s.heap.NoLimit) (hg : s.heap.Ns mainGlobals mg) (hb : s.heap.Ns builtinsNs mb) (hbs : mb "super" = bootBuiltins "super") (room : Room 1 A)
    (h : ∀ h' t0 tk', (∀ b o, s.heap.get? b = some o → h'.get? b = some o) → h'.get? (s.heap.objs.size + 1) = some (PySem.HandSPX.excO C t0) → Q (.ref (s.heap.objs.size + 1)) ⟨h', s.gens, s.drawn, tk', s.os⟩) :
    wpAny (model prog w) A (call (.ref C) []) Q E s := by
  obtain ⟨nm, q, N, bs, bm, sn, sub, ab, col, dd, k0, k1, k2, k3, k5, hC, hbm⟩ := S.oex.cls
  obtain ⟨fI, cc, cda, qual, params, scope, dV, kV, doc, pm, ct, oc, an, od, osl, txt, kk, p0, p1, p2, p3, p4, p5, ar, iC, tI, lk, cd, ph, hbind, nA, nS, nC, ncell, nco, ngen, nk, ⟨ccl, cdd, vs, ccs, file, tf, lcd, hvs, hfile⟩, ⟨cl, cld, csl, lcc⟩, ev⟩ := S.ex
  obtain ⟨hp, g, d, tk, os⟩ := s
  have up1 : ∀ b o, hp.get? b = some o → ((hp.push (kdv_tup [])).push (PySem.HandSPX.excO C hp.objs.size)).get? b = some o := fun b o e => Heap.get?_push_of_some _ (Heap.get?_push_of_some _ e)
  have hget : ((hp.push (kdv_tup [])).push (PySem.HandSPX.excO C hp.objs.size)).get? (hp.objs.size + 1) = some (PySem.HandSPX.excO C hp.objs.size) := by heap_get
  generalize hh1 : (hp.push (kdv_tup [])).push (PySem.HandSPX.excO C hp.objs.size) = h1 at *
  have X1 : K.In h1 := X.keeps up1
  refine wpAny_call (PySem.HandSPX.call_own F.excBase_ValueError (fun Y => PySem.HandSPX.refsVE_contains Y bm hbm) (X _ _ hC) (looks_findIn X iC) (fun self => bind_fn X self tI) (Nat.zero_le _) ?_)
  rw [hh1]
  refine ks_codeAny_call_defAt (fd := ksFn "__init__" qual params (supBody txt kk p0 p1 p2 p3 p4 p5) scope dV kV doc pm an (.ref cda) ct cc) (binds := [(ar.arg, .ref (hp.objs.size + 1))]) (by have := (room.make C [] []).dp; omega) (X1 _ _ lk) rfl (lim.keeps up1) (codeRec_of X1 cd) rfl (BindsTo.of_eq (hbind _)) ncell (fun x hx => by rw [List.mem_singleton.mp hx]; exact nA) (fun h2 hns k2 => ?_) nco ngen nk
  have X2 : K.In h2 := X1.keeps k2
  have hx2 := k2 _ _ hget
  have hC2 := X2 _ _ hC
  obtain ⟨cdC, cls2⟩ : ∃ x, clsIn K C = some x := by
    unfold clsIn
    rw [show K.lookup C = _ from hC]
    exact ⟨_, rfl⟩
  have ne := exc_ne (ox := PySem.HandSPX.excO C hp.objs.size) X2 hx2 (fun c z => by cases z) cls2
  have I2 : InstAt h2 (hp.objs.size + 1) (PySem.HandSPX.excO C hp.objs.size) C none := ⟨hx2, rfl, rfl, trivial⟩
  obtain ⟨pl, ev⟩ := ev h1.objs.size
  have int1 : interactive (callEnv (ksFn "__init__" qual params (supBody txt kk p0 p1 p2 p3 p4 p5) scope dV kV doc pm an (.ref cda) ct cc) h1.objs.size fI) = false := by
    unfold interactive
    simp [callEnv, newEnv, Env.blockKind, nk]
  refine ks_wpAt_execs_cons (ks_wpAt_Expr_any (hi := int1) (ks_wpAt_MethodCall (he := ev) (ks_wpAt_super_base (env := callEnv (ksFn "__init__" qual params (supBody txt kk p0 p1 p2 p3 p4 p5) scope dV kV doc pm an (.ref cda) ct cc) h1.objs.size fI) nS nC (by decide) rfl (X2 _ _ lk) rfl ph rfl (X2 _ _ lcd) rfl hvs hfile S.top ?_)))
  refine ks_loadName_global nk nS (loadGlobal_builtin (mg := mg) (mb := mb) (hg.keeps fun b o e => k2 b o (up1 b o e)) S.sup (hb.keeps fun b o e => k2 b o (up1 b o e)) (hbs.trans (by boot_by_name)) ⟨rfl, ?_⟩)
  refine wpAny_loadName_free nk nC rfl ⟨_, X2 _ _ lcc, rfl⟩ ?_
  refine wpAny_loadName_local (m := fun x => ([(ar.arg, Value.ref (hp.objs.size + 1))] : List (Str × Value)).reverse.lookup x) (v := .ref (hp.objs.size + 1)) nk nA hns (by simp) ?_
  refine ks_wpAny_isType_cls hC2 rfl ⟨rfl, ?_⟩
  refine ks_wpAny_call_super hC2 rfl hx2 rfl (fun c z => by cases z) (looks_mroIn X2 S.slf) (fun h3 e3 k3 => ?_)
  have X3 : K.In h3 := X2.keeps k3
  have hx3 := k3 _ _ hx2
  have I3 : InstAt h3 (hp.objs.size + 1) (PySem.HandSPX.excO C hp.objs.size) C none := ⟨hx3, rfl, rfl, trivial⟩
  have hal := S.alo
  unfold ks_superIn at hal
  rw [cls2] at hal
  refine kxs_getMethod kxs_ValueError e3 (looks_opaque X3 S.opq) (l₀ := _) (fun A Q E s k q => wpAny_bind ((looks_clsIn X3 cls2) A _ E s k (wpAny_pure q))) rfl X3 hal (I3.type.andThen (looks_subIn X3 S.sub)) ne (by decide) ?_
  have k4 : ∀ b o, h3.get? b = some o → (h3.push (kxs_mw "ValueError.__init__" (hp.objs.size + 1))).get? b = some o := fun b o e => Heap.get?_push_of_some _ e
  have hu : (h3.push (kxs_mw "ValueError.__init__" (hp.objs.size + 1))).get? h3.objs.size = some (kxs_mw "ValueError.__init__" (hp.objs.size + 1)) := Heap.get?_push_at rfl rfl
  refine kxs_callWith (i := "ValueError.__init__") (x := hp.objs.size + 1) (by rfl) (evalArgs_plain (spliced_more (rest := []) (Calls.Constant_str (spliced_none ⟨hu, ?_⟩))))
  refine mw_call (k4 _ _ (k3 _ _ hC2)) (k4 _ _ hx3) hu (by show 1 ≤ _; decide) fun h5 t1 k5 e5 => ?_
  refine wpAt_of_wpAny (wpAny_pure ⟨rfl, h h5 t1 _ (fun b o e => k5 b o (fun z => ?_) (k4 b o (k3 b o (k2 b o (up1 b o e))))) e5⟩)
  have z' : b < hp.objs.size := Heap.lt_size e
  rw [z] at z'
  exact absurd z' (Nat.not_lt.mpr (Nat.le_succ _))
end
end HW
/-! Own layer, part Y: defs that raise an own exception without fields; try, except .. as. -/
namespace HW
open PySem PySem.Spec PyProof.Rows L2 RZ
section
variable {X : Cx} {x : Str} {C : Addr} {p pos : Pos}
theorem pmk_sup (S : SupC X.prog X.K X.mg C) (room : Room 1 X.A) (hg : Gl X x) (hm : X.mg x = some (.ref C)) (hdb : (x == ("__debug__" : Str)) = false := by decide) : PMk X (.Call (.Name x p) [] [] pos) (fun _ H Q => Q (.ref C) none H) := by
  intro pins s σ H Q I h
  obtain ⟨mb, h1, h2⟩ := I.mod.blt
  refine wpAny_Call_Name_kw (ld_glob I hg hm ?_ hdb)
  refine PySem.W.callWith_K0 I.kIn S.oex.kC ?_
  refine sup_new S I.kIn (I.mod.nolimit.keeps I.bk) (I.mod.glob.keeps I.bk) (h1.keeps I.bk) (h2 _ (by decide)) room fun h' t0 tk' k e => ?_
  exact ⟨_, _, _, s, H, .ref C, none, rfl, I, k, Heap.get?_none_of_le (Nat.le_succ _), e, ⟨rfl, rfl⟩, rfl, rfl, I.hok.fresh (Nat.le_succ _), rfl, I.bare, raises_own S.oex.exC S.oex.tyC, h⟩
end
/-- what is let out: an exception of the class, the caller's own lists as they were -/
def WR (X : Cx) (rs : Rs) (C : Addr) : WX := fun cls d _ H' => cls = .ref C ∧ d = none ∧ (∀ b o, X.H_0 b = some o → ¬ rs.F b → H' b = some o) ∧ rs.I H'
/-- a def's promise: it raises -/
def SpecR (K : PySem.W.Frag) (C : Addr) (T : Rs → Mem → List Ab → Prop) : Sp := fun vs H Q E => ∃ rs M as G, T rs M as ∧ (∀ e ∈ M, e.mu = false) ∧ RepAll K G vs as ∧ Ok K rs M G H ∧
  ∀ H', (∀ b o, H b = some o → ¬ rs.F b → H' b = some o) → rs.I H' → E (.ref C) none H'
section
variable {X : Cx} {Ff : Addr → Prop} {S : Sta} {D : AE} {rs : Rs} {C : Addr} {e : Expr} {es : List Expr} {x : Str} {p pos pos2 : Pos}
theorem ds_raise (hc : X.calm = true) (tk : Takes X (WR X S.rs C)) (pm : PMk X e (fun _ H Q => Q (.ref C) none H)) (hF : ∀ b, Ff b → S.rs.F b) : DS X Ff S (.Raise (some e) none pos) D := fun G0 H0 =>
  ps_weak (ps_raise hc tk pm) fun De σ H ⟨G, s, _⟩ => ⟨rfl, rfl, fun b o eb nf => s.lie.h b o (by rw [H0.2]; exact eb) (fun z => nf (hF b z)), s.ok.i⟩
/-- .. by its state -/
def tCallGS (sp : Sp) (E : L2.St → XK) (t : TA) : TE := fun σ H Q => t σ H fun vs H1 => sp vs H1 Q (E σ)
theorem pe_callGS {k : Nat} {f : Addr} {fd : FuncData} {ps : List Str} {sp : Sp} {W : WX} {t : TA} (F : FnG X.prog X.w X.K X.mg X.base (L2.CX X.prog X.w) k f fd ps sp) (hr : Room k X.A) (gd : X.A.guards = some []) (hg : Gl X x) (hm : X.mg x = some (.ref f)) (hk : PySem.W.keepIn X.K (.ref f) = true) (hb : Binds X.K fd ps []) (tk : Takes X W)
    (ha : PA X (e :: es) t) (hdb : (x == ("__debug__" : Str)) = false := by decide) (he : starEach (e :: es) X.env = (false, eval e X.env) :: starEach es X.env := by rfl) (hpl : (backTo pos (starEach es X.env)).any (·.1) = false := by rfl) :
    PE X (.Call (.Name x p) (e :: es) [] pos) (tCallGS sp (WE W) t) := by
  refine ⟨fun pins s σ H Q I h => ?_⟩
  refine wpAny_Call_Name_kw (ld_glob I hg hm ?_ hdb)
  refine PySem.W.callWith_K (h₀ := X.base) I.ok.mod.kin hk (thn (ha.run pos pins s σ H _ I h) fun us s1 ⟨vs, H1, I1, r, q⟩ => ⟨I1.kIn, ?_⟩) he hpl
  have hl : us.length = ps.length := by rw [← r.length]; exact F.len _ _ _ _ q
  have b := hb s1 us I1.kIn (by rw [List.append_nil]; exact hl)
  rw [List.append_nil] at b
  refine wpAny_call (codeAny_mono (F.run X.A X.stack s1 H1 ⟨us, []⟩ us vs Q (WE W σ) hr gd I1.env0 b r q) fun res s' hq => ?_)
  match res, hq with
  | .error e, hq => exact passAt tk σ pins H1 s1 e s' I1 hq
  | .ok (.ret u), hq => exact I1.after hq
/-- an expression that raises: whatever follows -/
def tRz (K : PySem.W.Frag) (Ff : Addr → Prop) (G0 H0 : Hp) (S : Sta) (C : Addr) (W : WX) : TE := fun σ H _ => ∃ G, Stand K Ff G0 H0 S σ G H ∧ ∀ H', (∀ b o, H b = some o → ¬ S.rs.F b → H' b = some o) → S.rs.I H' → W (.ref C) none σ H'
theorem pe_rz {G0 H0 : Hp} {k : Nat} {f : Addr} {fd : FuncData} {ps : List Str} {W : WX} {T : List Ab → Prop} {Z : Rs → Mem → List Ab → Prop} (F : FnG X.prog X.w X.K X.mg X.base (L2.CX X.prog X.w) k f fd ps (SpecR X.K C Z)) (hr : Room k X.A) (gd : X.A.guards = some []) (hg : Gl X x) (hm : X.mg x = some (.ref f)) (hk : PySem.W.keepIn X.K (.ref f) = true) (hb : Binds X.K fd ps []) (tk : Takes X W)
    (ha : DA X S.rs S.M S.ρ (e :: es) T) (h : ∀ as, T as → Z S.rs [] as) (hdb : (x == ("__debug__" : Str)) = false := by decide) (he : starEach (e :: es) X.env = (false, eval e X.env) :: starEach es X.env := by rfl) (hpl : (backTo pos (starEach es X.env)).any (·.1) = false := by rfl) :
    PE X (.Call (.Name x p) (e :: es) [] pos) (tRz X.K Ff G0 H0 S C W) :=
  pe_weak (pe_callGS F hr gd hg hm hk hb tk ha hdb he hpl) fun σ H Q ⟨G, s, kk⟩ => ⟨G, s.loc, s.ok, fun vs as G1 H1 ra rep n => ⟨S.rs, [], as, G1, h as ra, fun _ z => absurd z List.not_mem_nil, rep, (s.ok.nxt n).sub (fun _ z => absurd z List.not_mem_nil) (fun _ _ _ _ z => by simp at z),
    fun H' h1 h2 => kk H' (fun b o eb nf => h1 b o (n.h b o eb nf) nf) h2⟩⟩
/-- f(..) that raises, as a statement -/
theorem ds_callRz {k : Nat} {f : Addr} {fd : FuncData} {ps : List Str} {T : List Ab → Prop} {Z : Rs → Mem → List Ab → Prop} (F : FnG X.prog X.w X.K X.mg X.base (L2.CX X.prog X.w) k f fd ps (SpecR X.K C Z)) (hr : Room k X.A) (gd : X.A.guards = some []) (hg : Gl X x) (hm : X.mg x = some (.ref f)) (hk : PySem.W.keepIn X.K (.ref f) = true) (hb : Binds X.K fd ps []) (tk : Takes X (WR X S.rs C))
    (hF : ∀ b, Ff b → S.rs.F b) (ha : DA X S.rs S.M S.ρ (e :: es) T) (h : ∀ as, T as → Z S.rs [] as) (hdb : (x == ("__debug__" : Str)) = false := by decide) (he : starEach (e :: es) X.env = (false, eval e X.env) :: starEach es X.env := by rfl) (hpl : (backTo pos (starEach es X.env)).any (·.1) = false := by rfl) :
    DX X Ff S (.Call (.Name x p) (e :: es) [] pos) (fun _ _ => False) := fun G0 H0 =>
  pe_weak (pe_rz (Ff := Ff) (G0 := G0) (H0 := H0.1) (S := S) F hr gd hg hm hk hb tk ha h hdb he hpl) fun σ H Q ⟨G, s, _⟩ => ⟨G, s, fun H' h1 h2 => ⟨rfl, rfl, fun b o eb nf => h1 b o (s.lie.h b o (by rw [H0.2]; exact eb) (fun z => nf (hF b z))) nf, h2⟩⟩
end
section
variable {P : Program} {w : World} {K : PySem.W.Frag} {mg : Str → Option Value} {base : Heap} {k : Nat} {f C : Addr} {fd : FuncData} {ps N : List Str} {x qual : Str} {st : Stmt} {T : Rs → Mem → List Ab → Prop}
abbrev bodyCxR (P : Program) (w : World) (K : PySem.W.Frag) (mg : Str → Option Value) (base : Heap) (N : List Str) (qual : Str) (st : Stmt) (f : Addr) (cdv : Value) (A : Around) (outer : List Env) (s : Shared) (H : Hp) (E : XK) : Cx := cxOf (L2.CX P w) P w K mg base N qual (defScope st) f cdv A outer s H E
theorem fn_goR (F : Fun K x qual st f fd) (Sc : FnScope N ps (defScope st)) (len : ∀ rs M as, T rs M as → as.length = ps.length)
    (body : ∀ (cdv : Value) (A : Around) (outer : List Env) (s : Shared) (H0 : Hp) (E : XK), Room k (A.deeper (envOfC qual (defScope st) s.heap.objs.size f cdv)) → A.guards = some [] → ∀ rs M as, T rs M as → (∀ e ∈ M, e.mu = false) →
      Takes (bodyCxR P w K mg base N qual st f cdv A outer s H0 E) (WR (bodyCxR P w K mg base N qual st f cdv A outer s H0 E) rs C) → PassesOwn (model P w) (bodyCxR P w K mg base N qual st f cdv A outer s H0 E).A (bodyCxR P w K mg base N qual st f cdv A outer s H0 E).env (bodyCxR P w K mg base N qual st f cdv A outer s H0 E).xe →
      DSs (bodyCxR P w K mg base N qual st f cdv A outer s H0 E) rs.F ⟨rs, M, startA N as⟩ (defBody st) ⟨fun _ => False, fun _ _ _ => False, fun _ => False, fun _ => False⟩) : FnG P w K mg base (L2.CX P w) (k + 1) f fd ps (SpecR K C T) := by
  refine fun_okG F Sc (fun vs H Q E ⟨rs, M, as, G, t, _, r, _⟩ => by rw [r.length]; exact len rs M as t) fun cdv A outer s H vs Q E room gd ⟨rs, M, as, G, t, ro, reps, ok, kk⟩ => ?_
  have run := body cdv A outer s H E room gd rs M as t ro ((takes_of (X := bodyCxR P w K mg base N qual st f cdv A outer s H E) rfl rfl rfl rfl).imp fun c d σ H' ⟨e1, e2, h1, h2⟩ => by
    subst e1 e2
    exact kk H' h1 h2) (passes_of (X := bodyCxR P w K mg base N qual st f cdv A outer s H E) rfl)
  exact ⟨_, run G ⟨H, rfl⟩, G, ⟨Loc.starts reps, ok, Lie.refl _ _ _, fun e he hm => absurd hm (by rw [ro e he]; decide), fun b f => .inr f⟩, fun S' σ' G' H' q s' => q.elim, fun _ _ _ _ _ _ q => q.elim, fun _ _ _ _ q => q.elim, fun _ _ _ _ q => q.elim⟩
end
end HW
/-! Own layer, part Z: try around a call that raises; keywords; isinstance of what was caught. -/
namespace HW
open PySem PySem.Spec PyProof.Rows L2 RZ
section
variable {X : Cx} {Ff : Addr → Prop} {S : Sta} {D : AE} {C : Addr} {a b c e o : Expr} {es : List Expr} {x n : Str} {p np pos pos' pos2 apos : Pos}
theorem Stand.rz {K : PySem.W.Frag} {G0 H0 G H H' : Hp} {σ : L2.St} (s : Stand K Ff G0 H0 S σ G H) (h1 : ∀ b o, H b = some o → ¬ S.rs.F b → H' b = some o) (h2 : S.rs.I H') : Stand K Ff G0 H0 S σ G H' :=
  s.nxt ⟨Same.refl _, fun b o e => h1 b o (s.ok.gh b o e) fun f => (by rw [s.ok.sep b f] at e; cases e), h1, fun _ _ e => .inl e, h2⟩
theorem pe_rzK {G0 H0 : Hp} {k : Nat} {f : Addr} {fd : FuncData} {ps ks : List Str} {kws : List Keyword} {g : List Value → List Value → List Value} {gV : List V → List V → List V} {W : WX} {as bs : List Ab} {Z : Rs → Mem → List Ab → Prop} (F : FnG X.prog X.w X.K X.mg X.base (L2.CX X.prog X.w) k f fd ps (SpecR X.K C Z)) (hr : Room k X.A) (gd : X.A.guards = some []) (hg : Gl X x) (hm : X.mg x = some (.ref f)) (hk : PySem.W.keepIn X.K (.ref f) = true) (hb : KBinds X.K fd ps ks g gV) (tk : Takes X W)
    (hkw : DK X S.rs S.M S.ρ kws (fun cs => cs = as)) (hV : ∀ G vs, RepAll X.K G vs as → RepAll X.K G (gV [] vs) bs) (h : Z S.rs [] bs) (hall : (backToKw pos (keywordEach kws X.env)).all (·.1.isSome) = true := by rfl) (hks : (backToKw pos (keywordEach kws X.env)).filterMap (·.1) = ks := by rfl)
    (hdb : (x == ("__debug__" : Str)) = false := by decide) (hpl : ((backTo pos (starEach [] X.env)).any (·.1) || (backToKw pos (keywordEach kws X.env)).any (·.1.isNone)) = false := by rfl) :
    PE X (.Call (.Name x p) [] kws pos) (tRz X.K Ff G0 H0 S C W) := by
  refine ⟨fun pins s0 σ H Q I ⟨G, s, kk⟩ => ?_⟩
  refine wpAny_Call_Name_kw (ld_glob I hg hm ?_ hdb)
  refine PySem.W.callWith_KW0 (h₀ := X.base) I.ok.mod.kin hk hall ?_ hpl
  refine thn (hkw.run pos pins _ σ H (fun vs H1 => ∃ G1, RepAll X.K G1 vs as ∧ Nxt S.rs G H G1 H1) I ⟨G, s.loc, s.ok, fun vs cs G1 H1 rc rep n1 => ⟨G1, by rw [← rc]; exact rep, n1⟩⟩) fun ws s1 q => ?_
  obtain ⟨zs, H1, I1, rz, G1, rep, n1⟩ := q
  rw [hks]
  refine And.intro I1.kIn ?_
  have sp : SpecR X.K C Z (gV [] zs) H1 Q (WE W σ) := ⟨S.rs, [], bs, G1, h, fun _ z => absurd z List.not_mem_nil, hV G1 zs rep, (s.ok.nxt n1).sub (fun _ z => absurd z List.not_mem_nil) (fun _ _ _ _ z => by simp at z), fun H' h1 h2 => kk H' (fun b o eb nf => h1 b o (n1.h b o eb nf) nf) h2⟩
  have both := hb.rel (us := []) .nil rz
  have ln : (g [] ws).length = ps.length := both.length.symm.trans (F.len _ _ _ _ sp)
  have ran := F.run X.A X.stack s1 H1 { pos := [], kw := ks.zip ws } (g [] ws) (gV [] zs) Q (WE W σ) hr gd I1.env0 (hb.to s1 [] ws I1.kIn ln) both sp
  refine wpAny_call (codeAny_mono ran fun res s' q => ?_)
  match res, q with
  | .error e, q => exact passAt tk σ pins H1 s1 e s' I1 q
  | .ok (.ret u), q => exact I1.after q
/-- e1 if c else e2, where both raise -/
theorem pe_rzIf {G0 H0 : Hp} {W : WX} {T : Bool → Prop} (hc : DT X S.rs S.M S.ρ c T) (ha : T true → PE X a (tRz X.K Ff G0 H0 S C W)) (hb : T false → PE X b (tRz X.K Ff G0 H0 S C W)) : PE X (.IfExp c a b pos) (tRz X.K Ff G0 H0 S C W) := by
  have ha' : PE X a (fun σ H Q => T true ∧ tRz X.K Ff G0 H0 S C W σ H Q) := ⟨fun pins s σ H Q I h => (ha h.1).run pins s σ H Q I h.2⟩
  have hb' : PE X b (fun σ H Q => T false ∧ tRz X.K Ff G0 H0 S C W σ H Q) := ⟨fun pins s σ H Q I h => (hb h.1).run pins s σ H Q I h.2⟩
  refine pe_weak (pe_ifExp hc ha' hb') fun σ H Q ⟨G, s, kk⟩ => ⟨G, s.loc, s.ok, fun t G1 H1 ht n => ?_⟩
  have go : tRz X.K Ff G0 H0 S C W σ H1 Q := ⟨G1, s.nxt n, fun H' h1 h2 => kk H' (fun b o eb nf => h1 b o (n.h b o eb nf) nf) h2⟩
  cases t with
  | true => exact iteT ⟨ht, go⟩
  | false => exact iteF ⟨ht, go⟩
/-- l.append(e), where e raises -/
theorem pss_appRz {G0 H0 : Hp} {W : WX} {q : Addr} {xs : List Ab} {k : Nat} (ho : DE X S.rs S.M S.ρ o (Is (.at q))) (h0 : S.M[k]? = some ⟨q, true, .lst xs⟩) (ha : PE X e (tRz X.K Ff G0 H0 S C W)) (hbase : attributeBase o "append" X.env (eval o X.env) = eval o X.env := by rfl)
    (hfew : ((backTo pos (starEach [e] X.env)).all (fun x => !x.1) && (backToKw pos (keywordEach [] X.env)).all (fun x => x.1.isSome)
      && decide (([e] : List Expr).length + ([] : List Keyword).length + (if ([] : List Keyword).isEmpty then 0 else 1) < 30)) = true := by rfl)
    (hline : (apos.endLine == pos.line) = true := by rfl) (hs : starEach [e] X.env = (false, eval e X.env) :: starEach [] X.env := by rfl) (hpl : (backTo pos (starEach [] X.env)).any (·.1) = false := by rfl) (hsw : swapsWith (.Call (.Attribute o "append" apos) [e] [] pos) none pos2.line X.env = pure false := by rfl) :
    PSs X [.Expr (.Call (.Attribute o "append" apos) [e] [] pos) pos2] (fun _ σ H => tRz X.K Ff G0 H0 S C W σ H (fun _ _ => True)) :=
  pss_weak (pss_one (ps_expr (pe_bm PySem.F.plainAttrs_list PySem.F.slot_list_append PySem.F.type_list_append mt_append ho (pa_cons ha pa_nil hs) hbase hfew hline hs hpl) hsw)) fun De σ H ⟨G, s, kk⟩ => ⟨G, s.loc, s.ok, fun v a G1 H1 ra rep n => by
    subst ra
    have rep : v = .ref q := rep
    subst rep
    have s1 := s.nxt n
    obtain ⟨_, _, vs, e1, _⟩ := s1.ok.m _ (List.mem_of_getElem? h0)
    exact ⟨.inl ⟨rfl, vs, .inl (.inl e1)⟩, ⟨G1, s1, fun H' h1 h2 => kk H' (fun b o eb nf => h1 b o (n.h b o eb nf) nf) h2⟩⟩⟩
/-- try: .. except C as n: suite, where the body raises -/
theorem ds_tryRz {i : Nat} {body : List Stmt} {b0 : Stmt} {suite : List Stmt} (hs : X.stack = X.env :: X.outer) (hf : X.env.frame = some X.env.locals) (hN : X.N.Nodup) (hi : X.N[i]? = some n) (hln : X.env.kindOf n = some .local) (hc : Names X x (.ref C)) (hex : PySem.W.exmOne X.K (.ref C) (.ref C) = some true)
    (hb : ∀ (W : WX) (pn : List (Addr × Obj)) (xe : Value → Shared → Prop), Takes (X.tr pn xe) W → ∀ G0 H0, PSs (X.tr pn xe) body (fun _ σ H => tRz X.K Ff G0 H0 S C W σ H (fun _ _ => True)))
    (hsu : ∀ (a : Addr) (oe : Obj) (pn : List (Addr × Obj)), Zc (.ref C) none oe → (∃ vs, oe.data = .fields vs) → DSs (X.suite a ((a, oe) :: pn)) Ff ⟨S.rs, S.M, S.ρ.set i (some (.at a))⟩ (b0 :: suite) ⟨fun S' => D.nx ⟨S'.rs, S'.M, S'.ρ.set i none⟩, fun _ _ _ => False, fun _ => False, fun _ => False⟩) :
    DS X Ff S (.Try body [.ExceptHandler (some (.Name x np)) (some n) (b0 :: suite) pos'] [] [] pos) D := fun G0 H0 => by
  have suite_ : ∀ (a : Addr) (oe : Obj) (cls : Value) (d : Option Addr) (pn : List (Addr × Obj)), Zc cls d oe → (∃ vs, oe.data = .fields vs) → PSs (X.suite a ((a, oe) :: pn)) (b0 :: suite)
      (fun De σ H => cls = .ref C ∧ d = none ∧ tS X.K Ff G0 H0.1 ⟨S.rs, S.M, S.ρ.set i (some (.at a))⟩ ⟨fun S' => D.nx ⟨S'.rs, S'.M, S'.ρ.set i none⟩, fun _ _ _ => False, fun _ => False, fun _ => False⟩ De σ H) := fun a oe cls d pn hz hv =>
    ⟨fun pins s σ H De I ⟨e1, e2, q⟩ => by
      subst e1 e2
      exact (hsu a oe pn hz hv G0 ⟨H0.1, H0.2⟩).run pins s σ H De I q⟩
  refine ps_weak (ps_try_as (tb := fun W _ σ H => tRz X.K Ff G0 H0.1 S C W σ H (fun _ _ => True)) hs hf hN hi hln hc takes0 (fun W pn xe tk _ => hb W pn xe tk G0 H0.1) suite_) fun De σ H ⟨G, s, nx, _⟩ => ⟨G, s, fun H' h1 h2 => ⟨true, hex, fun _ a na => ⟨rfl, rfl, G, (s.rz h1 h2).set (v := .ref a) (a := .at a) rfl, fun S' σ' G' H'' hn s' => nx _ _ G' H'' hn ⟨s'.loc.setN i, s'.ok, s'.lie, s'.own, s'.fr⟩, fun _ _ _ _ _ _ q => q.elim, fun _ _ _ _ q => q.elim, fun _ _ _ _ q => q.elim⟩, fun z => nomatch z⟩⟩
/-- .. where the body raises nothing -/
theorem ds_tryThru {body : List Stmt} {h0 : ExceptHandler} {hs : List ExceptHandler} (h : DSs X.nox Ff S body D) : DS X Ff S (.Try body (h0 :: hs) [] [] pos) D := fun G0 H0 => ps_try_thru0 (h G0 ⟨H0.1, H0.2⟩)
/-- a class by its name -/
theorem de_cls {rs : Rs} {M : Mem} {ρ : List (Option Ab)} {A : Addr} (hg : Gl X x) (hm : X.mg x = some (.ref A)) (hd : (x == ("__debug__" : Str)) = false := by decide) : DE X rs M ρ (.Name x pos) (Is (.at A)) :=
  pe_weak (pe_glob hg hm (v := .ref A) (show RelV (.ref A) (.ref A) from rfl) hd) fun σ H Q ⟨G, l, ok, k⟩ => k (.ref A) (.at A) G H rfl rfl (Nxt.rfl ok)
end
section
variable {X : Cx} {rs : Rs} {M : Mem} {ρ : List (Option Ab)} {C A a : Addr} {oe : Obj} {pn : List (Addr × Obj)} {e1 e2 : Expr} {p pos : Pos}
theorem de_isE (EC : ExcC X.K C) (hz : Zc (.ref C) none oe) (hf : ∃ vs, oe.data = .fields vs) (hk : PySem.W.kitOne X.K (.ref C) (.ref A) = some true) (hg : Gl (X.suite a ((a, oe) :: pn)) "isinstance") (hm : X.mg "isinstance" = none)
    (h1 : DE (X.suite a ((a, oe) :: pn)) rs M ρ e1 (Is (.at a))) (h2 : DE (X.suite a ((a, oe) :: pn)) rs M ρ e2 (Is (.at A))) (hs : starEach [e1, e2] X.env = (false, eval e1 X.env) :: starEach [e2] X.env := by rfl) (hs2 : starEach [e2] X.env = (false, eval e2 X.env) :: starEach [] X.env := by rfl) (hpl : (backTo pos (starEach [e2] X.env)).any (·.1) = false := by rfl) :
    DE (X.suite a ((a, oe) :: pn)) rs M ρ (.Call (.Name "isinstance" p) [e1, e2] [] pos) (Is (aB true)) :=
  de_callB (call_isE (X := X) EC hz hf) hg hm (by boot_by_name) (da_cons h1 (da_cons h2 da_nil hs2) hs) (fun as h => fun G H vs Q ok reps k => by
    subst h
    cases vs with
    | nil => exact reps.elim
    | cons v vs =>
      cases vs with
      | nil => exact reps.2.elim
      | cons u vs =>
        cases vs with
        | cons _ _ => exact reps.2.2.elim
        | nil =>
          obtain ⟨r1, r2, _⟩ := reps
          have r1 : v = .ref a := r1
          have r2 : u = .ref A := r2
          subst r1 r2
          exact ⟨.ref A, .ref A, true, rfl, fun u hu => hu, hk, k _ (aB true) G H rfl (Dp.bl _) (Nxt.rfl ok)⟩) (hs := hs) (hpl := hpl)
end
/-! ### triangular up to a level -/
section
variable {v n : Nat} {ts : List Nat} {xs ys : List Int}
def TriM (v n : Nat) (ts : List Nat) (m : Nat) : Prop := ∀ xs ys : List Int, xs.length = n → ys.length = n → InW v xs → InW v ys → lowL m xs = lowL m ys → lowL m (imgT v n ts xs) = lowL m (imgT v n ts ys)
def TriB (v n : Nat) (ts : List Nat) (b : Nat) : Prop := ∀ m, m ≤ b → TriM v n ts m
theorem TriM.inj {m : Nat} (a : TriM v n ts m) (ht : IsP (2 ^ (n * v)) ts) (hm : m ≤ v) (hx : xs.length = n) (hy : ys.length = n) (h : InW v xs) (h2 : InW v ys) (e : lowL m (imgT v n ts xs) = lowL m (imgT v n ts ys)) : lowL m xs = lowL m ys := by
  have nd : ((allT m n).map fun z => lowL m (imgT v n ts z)).Nodup := by
    refine nodup_of (allT_nd m n) (fun z hz => ?_) (by rw [List.length_map]; exact Nat.le_refl _)
    have hz' := allT_mem hz
    have zv := hz'.2.up hm
    obtain ⟨p, hp, ep⟩ := ht.at (numN_lt hz'.1 zv)
    have hp2 : p < (allT v n).length := by rw [allT_len]; exact hp
    obtain ⟨x, hx⟩ := getD_some hp2
    have hx' := allT_mem (List.mem_of_getElem? hx)
    have ex : imgT v n ts x = z := by
      have i := img_in ht hx'.1 hx'.2
      refine num_inj i.1 i.2 hz'.1 zv ?_
      rw [img_num ht hx'.1 hx'.2, numN_at hx, ep]
    refine List.mem_map.mpr ⟨lowL m x, allT_in ((lowL_len m x).trans hx'.1) (lowL_in m x), ?_⟩
    show lowL m (imgT v n ts (lowL m x)) = z
    rw [a (lowL m x) x ((lowL_len m x).trans hx'.1) hx'.1 ((lowL_in m x).up hm) hx'.2 (lowL_low (Nat.le_refl m) x), ex, lowL_id hz'.2]
  refine nodup_inj nd (allT_in ((lowL_len m xs).trans hx) (lowL_in m xs)) (allT_in ((lowL_len m ys).trans hy) (lowL_in m ys)) ?_
  show lowL m (imgT v n ts (lowL m xs)) = lowL m (imgT v n ts (lowL m ys))
  rw [a (lowL m xs) xs ((lowL_len m xs).trans hx) hx ((lowL_in m xs).up hm) h (lowL_low (Nat.le_refl m) xs), a (lowL m ys) ys ((lowL_len m ys).trans hy) hy ((lowL_in m ys).up hm) h2 (lowL_low (Nat.le_refl m) ys), e]
theorem mov_isPB {k : Nat} {low : List Int} (a : TriB v n ts (k + 1)) (ht : IsP (2 ^ (n * v)) ts) (hl : low.length = n) (hw : InW k low) (hk : k < v) : IsP (2 ^ n) (movN v n ts k low) := by
  have st : ∀ c : Nat, (lowUp (c : Int) k low).length = n ∧ InW v (lowUp (c : Int) k low) := fun c => ⟨(lowUp_len _ k low).trans hl, lowUp_in hw hk⟩
  refine ⟨movN_len v n ts k low, nodup_map_of fun c d hc hd e => ?_, fun x hx => ?_⟩
  · have i := img_in ht (st c).1 (st c).2
    have j := img_in ht (st d).1 (st d).2
    have e' : colI (imgT v n ts (lowUp (c : Int) k low)) k = colI (imgT v n ts (lowUp (d : Int) k low)) k := by
      rw [← (col_lt (k := k) i.1).2, ← (col_lt (k := k) j.1).2, e]
    have e1 := (low_succ (k := k) (i.1.trans j.1.symm)).mpr ⟨a k (Nat.le_succ k) _ _ (st c).1 (st d).1 (st c).2 (st d).2 (by rw [lowUp_low hw, lowUp_low hw]), e'⟩
    have e2 := (a (k + 1) (Nat.le_refl _)).inj ht hk (st c).1 (st d).1 (st c).2 (st d).2 e1
    have e3 := ((low_succ (k := k) ((st c).1.trans (st d).1.symm)).mp e2).2
    rw [lowUp_col hw (by rw [hl]; exact cast_lt hc), lowUp_col hw (by rw [hl]; exact cast_lt hd)] at e3
    omega
  · unfold movN at hx
    obtain ⟨c, hc, rfl⟩ := List.mem_map.mp hx
    exact (col_lt (img_in ht (st c).1 (st c).2).1).1
/-- held against its low part alone -/
theorem triM_low {m : Nat} (hm : m ≤ v) : TriM v n ts m ↔ ∀ xs : List Int, xs.length = n → InW v xs → lowL m (imgT v n ts xs) = lowL m (imgT v n ts (lowL m xs)) :=
  ⟨fun a xs h1 h2 => a xs (lowL m xs) h1 ((lowL_len m xs).trans h1) h2 ((lowL_in m xs).up hm) (lowL_low (Nat.le_refl m) xs).symm,
   fun a xs ys h1 h2 h3 h4 e => by rw [a xs h1 h3, a ys h2 h4, e]⟩
end
theorem eqv_intsT {a b : List Int} (h : (!(PyData.eqv (.tuple (a.map .int)) (.tuple (b.map .int)))) = false) : a = b := by
  rcases Decidable.em (a = b) with z | z
  · exact z
  · have := eqv_ints_ne z
    simp [PyData.eqv, this] at h
theorem low_zero {n : Nat} {xs ys : List Int} (h1 : xs.length = n) (h2 : ys.length = n) : lowL 0 xs = lowL 0 ys := by
  have z : ∀ zs : List Int, lowL 0 zs = List.replicate zs.length 0 := fun zs => by
    unfold lowL
    induction zs with
    | nil => rfl
    | cons x zs ih =>
      rw [List.map_cons, ih]
      show (x % 2 ^ 0) :: _ = List.replicate (zs.length + 1) 0
      rw [show (2 : Int) ^ 0 = 1 from rfl, Int.emod_one, List.replicate_succ]
  rw [z, z, h1, h2]
theorem dt_notFalse {X : Cx} {rs : Rs} {M : Mem} {ρ : List (Option Ab)} {a : Expr} {pos : Pos} (h : DE X rs M ρ a (Is (aB false))) (he : ∀ whole, isTrue a X.env whole = (do let v ← whole; standAt a.pos; holding [v] (truthy v)) := by intro _; rfl) : DT X rs M ρ (.UnaryOp .Not a pos) (fun c => c = true) :=
  dt_not (T := fun c => c = false) (dt_val h (fun y h => ⟨false, h, rfl⟩) he) fun c h => by rw [h]; rfl
end HW
/-! Own layer, part Za: list(range(a, b)), rows joined. -/
namespace HW
open PySem PySem.Spec PyProof.Rows L2 RZ
section
variable {X : Cx} {rs : Rs} {M : Mem} {ρ : List (Option Ab)} {a b e f : Expr} {pos p : Pos} {Ra Rb : Ab → Prop}
theorem dn_catR {T : List Ab → Prop} (ha : DE X rs M ρ a Ra) (hb : DE X rs M ρ b Rb) (h : ∀ x y, Ra x → Rb y → ∃ xs ys, SeqM X.K rs M x xs ∧ SeqM X.K rs M y ys ∧ xs.length + ys.length ≤ 100000 ∧ T (xs ++ ys)) : DN X rs M ρ (.BinOp a .Add b pos) T :=
  dn_op op_cat ha hb fun x y e1 e2 => fun G H v u Q ok r1 r2 k => by
    obtain ⟨xs, ys, hx, hy, hl, t⟩ := h x y e1 e2
    obtain ⟨p1, w1, rfl, s1, ra1⟩ := hx G H v ok r1
    obtain ⟨p2, w2, rfl, s2, ra2⟩ := hy G H u ok r2
    exact ⟨p1, p2, w1, w2, rfl, rfl, s1, s2, by rw [ra1.length, ra2.length]; exact Nat.le_trans hl (by decide), fun q hq => k q _ _ G _ t (ra1.append ra2) upd_same (ok.gnone hq) hq (Nxt.newM ok hq)⟩
/-- list(range(1, n)) -/
theorem dn_listRange2 {i : Int} (hc : X.calm = true) (hm : X.mg "list" = none) (hm2 : X.mg "range" = none) (ha : DE X rs M ρ e (Is (aI 1))) (hb : DE X rs M ρ f (Is (aI i))) (h0 : 1 ≤ i) (h1 : i ≤ 100000) {p3 pos3 : Pos} (hg : Gl X "list" := by rfl) (hg2 : Gl X "range" := by rfl) (he : starEach [e, f] X.env = (false, eval e X.env) :: starEach [f] X.env := by rfl) (hf : starEach [f] X.env = (false, eval f X.env) :: starEach [] X.env := by rfl) (hp : (backTo pos3 (starEach [f] X.env)).any (·.1) = false := by rfl)
    (he2 : starEach [Expr.Call (.Name "range" p3) [e, f] [] pos3] X.env = (false, eval (Expr.Call (.Name "range" p3) [e, f] [] pos3) X.env) :: starEach [] X.env := by rfl) :
    DN X rs M ρ (.Call (.Name "list" p) [.Call (.Name "range" p3) [e, f] [] pos3] [] pos) (fun as => as = (List.range (i - 1).toNat).map fun (k : Nat) => aI ((k + 1 : Nat) : Int)) :=
  pe_weak (pe_listRg hc hg hm (prg_2 hg2 hm2 ha hb he hf hp) he2) fun σ H Q ⟨G, l, ok, k⟩ => ⟨G, l, ok, fun v y G1 H1 ry rep n => by
    subst ry
    have ok1 := ok.nxt n
    refine ⟨G1, l.same n.g, ok1, fun u z G2 H2 rz rep2 n2 => ?_⟩
    subst rz
    rw [rep_int rep, rep_int rep2]
    have ok2 := ok1.nxt n2
    refine ⟨1, i, rfl, rfl, ⟨by decide, by decide, by omega, by omega, by omega⟩, fun z hz => k z _ _ G2 _ rfl ?_ upd_same (ok2.gnone hz) (fresh_of ok (n.trans n2 ok) hz) ((n.trans n2 ok).trans (Nxt.newM ok2 hz) ok)⟩
    have e1 : rgV 1 i = ((List.range (i - 1).toNat).map fun k => ((k + 1 : Nat) : Int)).map V.int := by
      unfold rgV
      rw [List.map_map]
      exact List.map_congr_left fun k _ => by show V.int (1 + (k : Int)) = V.int ((k + 1 : Nat) : Int); rw [show (1 : Int) + k = ((k + 1 : Nat) : Int) by omega]
    have e2 : ((List.range (i - 1).toNat).map fun (k : Nat) => aI ((k + 1 : Nat) : Int)) = ((List.range (i - 1).toNat).map fun k => ((k + 1 : Nat) : Int)).map aI := by
      rw [List.map_map]
      rfl
    rw [e1, e2]
    exact ints_repAll _⟩
end
theorem isP_cons {N : Nat} {qs : List Nat} (hN : 1 ≤ N) (h : qs.Perm ((List.range (N - 1)).map (· + 1))) : IsP N (0 :: qs) := by
  have e : List.range N = 0 :: (List.range (N - 1)).map (· + 1) := by
    obtain ⟨m, rfl⟩ : ∃ m, N = m + 1 := ⟨N - 1, by omega⟩
    rw [List.range_succ_eq_map]
    rfl
  refine (IsP.range N).of_perm ?_
  rw [e]
  exact h.cons 0
theorem dt_eqW {X : Cx} {rs : Rs} {M : Mem} {ρ : List (Option Ab)} {a b : Expr} {pos : Pos} {W : Int → Prop} {j : Int} (ha : DE X rs M ρ a (IntW W)) (hb : DE X rs M ρ b (Is (aI j))) : DT X rs M ρ (.Compare a [.Eq] [b] pos) (fun _ => True) := dt_cmp op_eq ha hb (fun _ _ ⟨_, e1, _⟩ e2 => by subst e1 e2; exact ar_eqI ⟨_, rfl, trivial⟩) (nomark _)
theorem dt_ltW {X : Cx} {rs : Rs} {M : Mem} {ρ : List (Option Ab)} {a b : Expr} {pos : Pos} {W : Int → Prop} {j : Int} (ha : DE X rs M ρ a (IntW W)) (hb : DE X rs M ρ b (Is (aI j))) : DT X rs M ρ (.Compare a [.Lt] [b] pos) (fun _ => True) := dt_cmp op_lt ha hb (fun _ _ ⟨_, e1, _⟩ e2 => by subst e1 e2; exact ar_cmp0 ⟨_, rfl, trivial⟩) (nomark _)
/-- 1 + a number that is told by its bounds -/
theorem de_oneW {X : Cx} {rs : Rs} {M : Mem} {ρ : List (Option Ab)} {b : Expr} {p1 pos : Pos} {q : Nat} {k B : Int} (hb : DE X rs M ρ b (fun a => ∃ r : Int, a = aI r ∧ 0 ≤ r ∧ r < k)) (h : ∀ x : Int, 0 ≤ x → x < k → 0 ≤ 1 + x ∧ 1 + x < B) :
    DE X rs M ρ (.BinOp (.Constant (.int 1) q p1) .Add b pos) (fun a => ∃ r : Int, a = aI r ∧ 0 ≤ r ∧ r < B) := de_op op_add de_int hb fun _ _ e1 ⟨x, e2, h0, h1⟩ => by subst e1 e2; exact ar_int0 ⟨_, rfl, h _ h0 h1⟩
end HW
/-! Own layer, part Nf: dicts of our own whose keys are tuples of numbers: get with a default, put. -/
namespace HW
open PySem PySem.Spec PyProof.Rows L2 RZ
theorem fkey_hash (w w' : World) (k : FK) : (fkey k).hash w = (fkey k).hash w' := by
  unfold fkey
  simp only [NestedKey.hash, nums_hash w w']
theorem fkey_depth (k : FK) : (fkey k).depth ≤ 8 := by
  unfold fkey
  simp only [NestedKey.depth, nums_depth]
  decide
theorem fkey_inj {a b : FK} (h : fkey a = fkey b) : a = b := by
  unfold fkey at h
  injection h with h
  exact nums_inj h
section
variable {X : Cx} {pins : List (Addr × Obj)} {σ : L2.St} {H : Hp} {s : Shared}
theorem fis_key (I : Inv X pins σ H s) {v : V} {k : FK} (h : Dp X.K H v (fkD k)) : ∃ b, v = .ref b ∧ NestedIs s.heap (fkey k) (.ref b) := by
  unfold fkD at h
  cases h with
  | @tup a xs _ hs ha =>
    obtain ⟨its, r, ⟨o, e1, e2, n, e3⟩, _⟩ := I.tuple hs
    exact ⟨a, rfl, .tup e1 e2 e3 (by rw [List.toList_toArray]; exact nis_ints ha r)⟩
abbrev PF : List (FK × Addr × V) → List (FK × Addr × Value) → Prop := Paired fun p q => p.1 = q.1 ∧ p.2.1 = q.2.1 ∧ RelV p.2.2 q.2.2
abbrev fz (ys : List (FK × Addr × Value)) : List (NestedKey × Addr × Value) := ys.map fun y => (fkey y.1, y.2)
theorem fd_dict (I : Inv X pins σ H s) {a : Addr} {xs : List (FK × Addr × V)} (e : H a = some (FdO a xs)) (hk : ∀ x ∈ xs, Dp X.K H (.ref x.2.1) (fkD x.1)) :
    ∃ ys, PF xs ys ∧ s.heap.DictOfH (nestedKind X.prog X.w) a (fz ys) := by
  obtain ⟨⟨ys, pr, o, es, ep, h1, h2, h3, h4, h5⟩, _⟩ := (show ObjOk X.prog X.w H s.heap a (FdO a xs) from I.hok a _ e)
  refine ⟨ys, pr, o, es, ep, h1, h2, h3, ?_, ?_, ?_⟩
  · rw [h4 X.w, List.map_map]
    rfl
  · have all : ∀ {l : List (FK × Addr × V)} {m : List (FK × Addr × Value)}, PF l m → (∀ x ∈ l, Dp X.K H (.ref x.2.1) (fkD x.1)) → ∀ z ∈ fz m, (nestedKind X.prog X.w).is s.heap z.1 z.2.1 := by
      intro l m q
      induction q with
      | nil => intro _ z hz; exact nomatch hz
      | @cons p q ps qs hq t ih =>
        intro hl z hz
        rcases List.mem_cons.mp hz with e | hz
        · subst e
          obtain ⟨b, e1, e2⟩ := fis_key I (hl p List.mem_cons_self)
          refine ⟨?_, fkey_depth _⟩
          have e3 : p.2.1 = b := by injection e1
          show NestedIs s.heap (fkey q.1) (.ref q.2.1)
          rw [← hq.1, ← hq.2.1, e3]
          exact e2
        · exact ih (fun x hx => hl x (List.mem_cons_of_mem _ hx)) z hz
    exact all pr hk
  · have e2 : (fz ys).map (·.1) = (ys.map (·.1)).map fkey := by
      rw [List.map_map, List.map_map]
      rfl
    rw [e2]
    exact (List.pairwise_map.mpr (h5.imp fun {a b} n q => n (fkey_inj q)))
def valF (kvs : List (FK × Ab)) (k : FK) : Option Ab := (kvs.find? fun kv => decide (kv.1 = k)).map (·.2)
def putF (kvs : List (FK × Ab)) (k : FK) (a : Ab) : List (FK × Ab) := if k ∈ kvs.map (·.1) then kvs.map (fun kv => if kv.1 = k then (k, a) else kv) else kvs ++ [(k, a)]
/-- found, or not there -/
theorem valF_get {G : Hp} {k : FK} : ∀ {xs : List (FK × Addr × V)} {ys : List (FK × Addr × Value)} {kvs : List (FK × Ab)}, PF xs ys → xs.map (·.1) = kvs.map (·.1) → RepAll X.K G (xs.map (·.2.2)) (kvs.map (·.2)) →
    (atKey (fz ys) (fkey k) = none ∧ valF kvs k = none) ∨ ∃ (p : Addr × Value) (v : V) (y : Ab), atKey (fz ys) (fkey k) = some p ∧ valF kvs k = some y ∧ RelV v p.2 ∧ Rep X.K G v y
  | [], _, [], pr, _, _ => by cases pr; exact .inl ⟨rfl, rfl⟩
  | x :: xs, _, kv :: kvs, pr, e, r => by
    cases pr with
    | @cons _ q _ qs hq t =>
      rw [List.map_cons, List.map_cons] at e
      obtain ⟨e1, e2⟩ := List.cons.inj e
      rw [List.map_cons, List.map_cons] at r
      obtain ⟨r1, r2⟩ := r
      by_cases z : kv.1 = k
      · have hz : valF (kv :: kvs) k = some kv.2 := by simp [valF, List.find?_cons, z]
        have ez : fkey q.1 = fkey k := by rw [← hq.1, e1, z]
        exact .inr ⟨q.2, x.2.2, kv.2, by simp [atKey, fz, List.find?_cons, ez], hz, hq.2.2, r1⟩
      · have hz : valF (kv :: kvs) k = valF kvs k := by simp [valF, List.find?_cons, z]
        have ez : ¬ fkey q.1 = fkey k := fun n => z (by rw [← e1, hq.1]; exact fkey_inj n)
        have ea : atKey (fz (q :: qs)) (fkey k) = atKey (fz qs) (fkey k) := by simp [atKey, fz, List.find?_cons, ez]
        rw [hz, ea]
        exact valF_get t e2 r2
  | [], _, _ :: _, _, e, _ => by cases e
  | _ :: _, _, [], _, e, _ => by cases e
theorem fkeys_of : ∀ {xs : List (FK × Addr × V)} {ys : List (FK × Addr × Value)}, PF xs ys → ys.map (·.1) = xs.map (·.1)
  | [], _, pr => by cases pr; rfl
  | x :: xs, _, pr => by
    cases pr with
    | cons hq t => rw [List.map_cons, List.map_cons, fkeys_of t, hq.1]
theorem valF_none {kvs : List (FK × Ab)} {k : FK} : valF kvs k = none ↔ k ∉ kvs.map (·.1) := by
  unfold valF
  rw [Option.map_eq_none_iff, List.find?_eq_none]
  constructor
  · intro h z
    obtain ⟨x, hx, e⟩ := List.mem_map.mp z
    exact h x hx (decide_eq_true e)
  · intro h x hx e
    exact h (List.mem_map.mpr ⟨x, hx, of_decide_eq_true e⟩)
theorem valF_put {kvs : List (FK × Ab)} {k j : FK} {a : Ab} : valF (putF kvs k a) j = if j = k then some a else valF kvs j := by
  unfold putF
  split
  · rename_i hm
    induction kvs with
    | nil => simp at hm
    | cons kv kvs ih =>
      rw [List.map_cons]
      by_cases e : kv.1 = k
      · rw [if_pos e]
        by_cases q : j = k
        · subst q
          simp [valF, List.find?_cons]
        · rw [if_neg q]
          have q2 : ¬ k = j := fun z => q z.symm
          have q3 : ¬ kv.1 = j := fun z => q (by rw [← z, e])
          have t : valF (kvs.map (fun kv => if kv.1 = k then (k, a) else kv)) j = valF kvs j := by
            clear ih hm
            induction kvs with
            | nil => rfl
            | cons kv2 kvs ih2 =>
              rw [List.map_cons]
              by_cases e2 : kv2.1 = k
              · rw [if_pos e2]
                have q4 : ¬ kv2.1 = j := fun z => q (by rw [← z, e2])
                simp only [valF, List.find?_cons, q2, q4, decide_false]
                exact ih2
              · rw [if_neg e2]
                by_cases q5 : kv2.1 = j
                · simp [valF, List.find?_cons, q5]
                · simp only [valF, List.find?_cons, q5, decide_false]
                  exact ih2
          have u1 : valF ((k, a) :: kvs.map (fun kv => if kv.1 = k then (k, a) else kv)) j = valF (kvs.map (fun kv => if kv.1 = k then (k, a) else kv)) j := by simp [valF, List.find?_cons, q2]
          have u2 : valF (kv :: kvs) j = valF kvs j := by simp [valF, List.find?_cons, q3]
          rw [u1, u2, t]
      · rw [if_neg e]
        have hm2 : k ∈ kvs.map (·.1) := by
          rw [List.map_cons] at hm
          rcases List.mem_cons.mp hm with z | z
          · exact absurd z.symm e
          · exact z
        by_cases q5 : kv.1 = j
        · have q6 : ¬ j = k := fun z => e (by rw [q5, z])
          rw [if_neg q6]
          simp [valF, List.find?_cons, q5]
        · have u1 : valF (kv :: kvs.map (fun kv => if kv.1 = k then (k, a) else kv)) j = valF (kvs.map (fun kv => if kv.1 = k then (k, a) else kv)) j := by simp [valF, List.find?_cons, q5]
          have u2 : valF (kv :: kvs) j = valF kvs j := by simp [valF, List.find?_cons, q5]
          rw [u1, u2]
          exact ih hm2
  · rename_i hm
    unfold valF
    rw [List.find?_append]
    by_cases q : j = k
    · subst q
      have : kvs.find? (fun kv => decide (kv.1 = j)) = none := by
        rw [List.find?_eq_none]
        intro x hx hk
        exact hm (List.mem_map.mpr ⟨x, hx, of_decide_eq_true hk⟩)
      rw [this]
      simp
    · have q2 : ¬ k = j := fun z => q z.symm
      rw [if_neg q]
      cases kvs.find? (fun kv => decide (kv.1 = j)) with
      | none => simp [List.find?_cons, q2]
      | some z => rfl
theorem putF_len (kvs : List (FK × Ab)) (k : FK) (a : Ab) : (putF kvs k a).length ≤ kvs.length + 1 := by
  unfold putF
  split
  · rw [List.length_map]
    exact Nat.le_succ _
  · rw [List.length_append]
    exact Nat.le_refl _
theorem putF_keys {kvs : List (FK × Ab)} {k : FK} {a : Ab} : ∀ x ∈ putF kvs k a, x.1 = k ∨ ∃ y ∈ kvs, y.1 = x.1 := fun x hx => by
  unfold putF at hx
  split at hx
  · obtain ⟨y, hy, rfl⟩ := List.mem_map.mp hx
    by_cases e : y.1 = k
    · rw [if_pos e]
      exact .inl rfl
    · rw [if_neg e]
      exact .inr ⟨y, hy, rfl⟩
  · rcases List.mem_append.mp hx with hx | hx
    · exact .inr ⟨x, hx, rfl⟩
    · rw [List.mem_singleton.mp hx]
      exact .inl rfl
theorem pf_snoc {x : FK × Addr × V} {y : FK × Addr × Value} (h : x.1 = y.1 ∧ x.2.1 = y.2.1 ∧ RelV x.2.2 y.2.2) : ∀ {xs : List (FK × Addr × V)} {ys : List (FK × Addr × Value)}, PF xs ys → PF (xs ++ [x]) (ys ++ [y])
  | _, _, .nil => .cons h .nil
  | _, _, .cons a t => .cons a (pf_snoc h t)
theorem pf_len : ∀ {xs : List (FK × Addr × V)} {ys : List (FK × Addr × Value)}, PF xs ys → ys.length = xs.length
  | _, _, .nil => rfl
  | _, _, .cons a t => by rw [List.length_cons, List.length_cons, pf_len t]
def repX {α : Type} (k : FK) (v : α) (x : FK × Addr × α) : FK × Addr × α := if x.1 = k then (x.1, x.2.1, v) else x
theorem pf_rep {k : FK} {v : V} {r : Value} (rv : RelV v r) : ∀ {xs : List (FK × Addr × V)} {ys : List (FK × Addr × Value)}, PF xs ys → PF (xs.map (repX k v)) (ys.map (repX k r))
  | _, _, .nil => .nil
  | x :: _, y :: _, .cons a t => by
    rw [List.map_cons, List.map_cons]
    refine .cons ?_ (pf_rep rv t)
    unfold repX
    by_cases e : x.1 = k
    · rw [if_pos e, if_pos (a.1 ▸ e)]
      exact ⟨a.1, a.2.1, rv⟩
    · rw [if_neg e, if_neg fun z => e (a.1.trans z)]
      exact a
theorem rep_keys {α : Type} {k : FK} {v : α} (xs : List (FK × Addr × α)) : (xs.map (repX k v)).map (·.1) = xs.map (·.1) := by
  rw [List.map_map]
  refine List.map_congr_left fun x _ => ?_
  show (repX k v x).1 = x.1
  unfold repX
  split <;> rfl
def putX (xs : List (FK × Addr × V)) (k : FK) (b : Addr) (v : V) : List (FK × Addr × V) := if k ∈ xs.map (·.1) then xs.map (repX k v) else xs ++ [(k, b, v)]
theorem fz_rep {k : FK} {r : Value} (ys : List (FK × Addr × Value)) : (fz ys).map (putAt (fkey k) r) = fz (ys.map (repX k r)) := by
  unfold fz
  rw [List.map_map, List.map_map]
  refine List.map_congr_left fun y _ => ?_
  show putAt (fkey k) r (fkey y.1, y.2) = (fkey (repX k r y).1, (repX k r y).2)
  unfold putAt repX
  by_cases e : y.1 = k
  · rw [if_pos (show fkey y.1 = fkey k by rw [e]), if_pos e]
  · rw [if_neg (show ¬ fkey y.1 = fkey k from fun z => e (fkey_inj z)), if_neg e]
theorem atKey_fnew {k : FK} {ys : List (FK × Addr × Value)} (h : k ∉ ys.map (·.1)) : atKey (fz ys) (fkey k) = none := by
  refine atKey_none_of_get fun j p e => ?_
  rw [List.getElem?_map] at e
  obtain ⟨y, hy, e2⟩ := Option.map_eq_some_iff.mp e
  injection e2 with e2 _
  exact h (List.mem_map.mpr ⟨y, List.mem_of_getElem? hy, fkey_inj e2⟩)
theorem atKey_fold {k : FK} : ∀ {ys : List (FK × Addr × Value)}, k ∈ ys.map (·.1) → ∃ p, atKey (fz ys) (fkey k) = some p
  | [], h => by simp at h
  | y :: ys, h => by
    by_cases e : y.1 = k
    · exact ⟨y.2, by simp [atKey, fz, List.find?_cons, e]⟩
    · rw [List.map_cons] at h
      obtain ⟨p, hp⟩ := atKey_fold ((List.mem_cons.mp h).resolve_left fun z => e z.symm)
      have ez : ¬ fkey y.1 = fkey k := fun z => e (fkey_inj z)
      refine ⟨p, ?_⟩
      rw [← hp]
      simp [atKey, fz, List.find?_cons, ez]
theorem fdO_stay {a : Addr} {xs : List (FK × Addr × V)} : ∀ h1 h2 : Heap, (∃ ys : List (FK × Addr × Value), PF xs ys ∧ ∃ o es ep, h1.get? a = some o ∧ o.ExactDict ∧ o.data = .dict es ep ∧ (∀ w : World, es.toList = ys.map fun x => ⟨(fkey x.1).hash w, .ref x.2.1, x.2.2⟩) ∧ (ys.map (·.1)).Nodup) →
    (∀ o, h1.get? a = some o → h2.get? a = some o) → (∃ ys : List (FK × Addr × Value), PF xs ys ∧ ∃ o es ep, h2.get? a = some o ∧ o.ExactDict ∧ o.data = .dict es ep ∧ (∀ w : World, es.toList = ys.map fun x => ⟨(fkey x.1).hash w, .ref x.2.1, x.2.2⟩) ∧ (ys.map (·.1)).Nodup) :=
  fun h1 h2 ⟨ys, pr, o, es, ep, a, b⟩ st => ⟨ys, pr, o, es, ep, st _ a, b⟩
variable {o i e f : Expr} {pos pos' apos : Pos} {td ty tv tx : TE}
theorem pe_fnew : PE X (.Dict [] [] pos) (fun _ H Q => ∀ p, H p = none → (p == sysModules) = false → Q (.ref p) (upd H p (FdO p []))) := ⟨fun pins s σ H Q I h => by
  have hs : (s.heap.objs.size == sysModules) = false := beq_eq_false_iff_ne.mpr (Ne.symm (Nat.ne_of_lt I.big))
  refine wpAny_Dict_empty ⟨.ref s.heap.objs.size, _, I.laid (a := s.heap.objs.size) (o := FdO s.heap.objs.size []) (t' := s.toks) (fun _ _ q => Heap.get?_push_of_some _ q) (Nat.le_refl _) ⟨⟨[], .nil, _, #[], 0, Heap.get?_push_size _ rfl, ⟨rfl, rfl, rfl⟩, rfl, fun _ => rfl, List.nodup_nil⟩, ⟨_, Heap.get?_push_size _ rfl⟩, ?_⟩, rfl, h _ (I.hok.fresh (Nat.le_refl _)) hs⟩
  exact fun h1 h2 ⟨ys, pr, o, es, ep, a, b⟩ st => ⟨ys, pr, o, es, ep, st _ a, b⟩⟩
/-- d.get(k, x) -/
def tFGet (K : PySem.W.Frag) (td ty tx : TE) : TE := fun σ H Q => td σ H fun x H1 => ∃ q, x = .ref q ∧ (∃ xs G1, H1 q = some (FdO q xs) ∧ Same G1 H1 ∧ ∀ x ∈ xs, Dp K G1 (.ref x.2.1) (fkD x.1)) ∧ ty σ H1 fun y H2 => tx σ H2 fun z H3 => ∃ G kvs k, Same G H3 ∧ MRep K G H3 q (.fd kvs) ∧ Dp K G y (fkD k) ∧
  (valF kvs k = none → Q z H3) ∧ ∀ a v, valF kvs k = some a → Rep K G v a → Q v H3
theorem pe_fget (hu : X.A.units + 64 < cLine) (ho : PE X o td) (he : PE X e ty) (hf : PE X f tx) (m : M2 X o "get" apos e f pos) : PE X (.Call (.Attribute o "get" apos) [e, f] [] pos) (tFGet X.K td ty tx) := by
  refine ⟨fun pins s σ H Q I h => ?_⟩
  refine wpAny_Call_method m.base m.few m.line PySem.F.plainAttrs_dict PySem.F.slot_dict_get PySem.F.type_dict_get (thn (ho.run pins s σ H _ I h) fun u s1 ⟨x, H1, I1, rx, q, ex, ⟨xs0, G1, e0, gh0, k0⟩, q1⟩ => ?_)
  subst ex
  obtain rfl : u = Value.ref q := rx
  obtain ⟨ys0, pr0, dd0⟩ := fd_dict I1 e0 fun x hx => dp_same gh0 _ _ (k0 x hx)
  refine ⟨dd0.typeIs, ?_, ?_⟩
  · obtain ⟨ob, _, _, h1, h2, _⟩ := dd0
    exact fun a ea => by
      injection ea with ea
      subst ea
      exact ⟨ob, h1, h2.2.1⟩
  rw [m.trees]
  refine Calls.callWith_builtin rfl (Calls.evalArgs_plain (Calls.spliced_cons (thn (he.run pins s1 σ H1 _ I1 q1) fun iv s2 ⟨y, H2, I2, ry, q2⟩ =>
    Calls.spliced_cons (thn (hf.run pins s2 σ H2 _ I2 q2) fun fv s3 ⟨z, H3, I3, rz, G, kvs, k, gh, mr, dk, qn, qs⟩ => Calls.spliced_nil ?_))))
  obtain ⟨xs, e1, e2, e3, e4, e5⟩ := mr
  obtain ⟨ys, pr, dd⟩ := fd_dict I3 e1 fun x hx => dp_same gh _ _ (e5 x hx)
  obtain ⟨b, rfl, nk⟩ := fis_key I3 (dp_same gh _ _ dk)
  obtain rfl : iv = Value.ref b := ry
  refine call_meetsIn PySem.F.slot_dict_get dd.typeIs PySem.F.entry_dict_get (PySem.F.args_dict_get_3 _ _ _) (meetsH_dict_get_default (nestedKind X.prog X.w) q b e2 fv) ⟨show X.A.in1.units + 8 < cLine from by show X.A.units + 1 + 8 < cLine; omega, fkey k, fz ys, ⟨nk, fkey_depth k⟩, dd, ?_⟩
  rcases valF_get (k := k) pr e3 e4 with ⟨h1, h2⟩ | ⟨p, v, a, h1, h2, h3, h4⟩
  · rw [h1]
    exact ⟨z, H3, I3.tok _, rz, qn h2⟩
  · rw [h1]
    exact ⟨v, H3, I3.tok _, h3, qs a v h2 h4⟩
/-- d[k] = v -/
def sFPut (K : PySem.W.Frag) (td ty tv : TE) : TS := fun D σ H => tv σ H fun v H1 => td σ H1 fun x H2 => ty σ H2 fun y H3 => ∃ G q xs k, Same G H3 ∧ x = .ref q ∧ H3 q = some (FdO q xs) ∧ (∀ x ∈ xs, Dp K G (.ref x.2.1) (fkD x.1)) ∧ xs.length ≤ 100000 ∧ Dp K G y (fkD k) ∧ ∀ b, y = .ref b → D.nx σ (upd H3 q (FdO q (putX xs k b v)))
theorem ps_fput (hu : X.A.units + 64 < cLine) (ho : PE X o td) (hi : PE X i ty) (hv : PE X e tv) (hs : swapsWith e (some (.Subscript o i pos')) pos.line X.env = pure false) : PS X (.Assign [.Subscript o i pos'] e pos) (sFPut X.K td ty tv) := by
  refine ⟨fun pins s σ H D I h => ?_⟩
  refine wpAny_Assign_Subscript (thn (hv.run pins s σ H _ I h) fun r s1 ⟨v, H1, I1, rv, q1⟩ => thn (ho.run pins s1 σ H1 _ I1 q1) fun u s2 ⟨x, H2, I2, rx, q2⟩ => thn (hi.run pins s2 σ H2 _ I2 q2) fun iv s3 ⟨y, H3, I3, ry, G, q, xs, k, gh, ex, e1, e5, hl, dk, q3⟩ => ?_) hs
  subst ex
  obtain rfl : u = Value.ref q := rx
  obtain ⟨ys, pr, dd⟩ := fd_dict I3 e1 fun x hx => dp_same gh _ _ (e5 x hx)
  obtain ⟨b, rfl, nk⟩ := fis_key I3 (dp_same gh _ _ dk)
  obtain rfl : iv = Value.ref b := ry
  refine wpAny_setItem_heap (knd := nestedKind X.prog X.w) (hsz := by rw [List.length_map, pf_len pr]; exact Nat.le_trans hl (by decide)) (show X.A.in1.units + 8 < cLine from by show X.A.units + 1 + 8 < cLine; omega) ⟨nk, fkey_depth k⟩ dd fun h' dd' hb => ?_
  have ⟨zs, ez, prz⟩ : ∃ zs : List (FK × Addr × Value), storedH (fz ys) (fkey k) b r = fz zs ∧ PF (putX xs k b v) zs := by
    unfold putX
    by_cases hn : k ∈ xs.map (·.1)
    · rw [if_pos hn]
      obtain ⟨p, hp⟩ := atKey_fold (k := k) (ys := ys) (by rw [fkeys_of pr]; exact hn)
      exact ⟨ys.map (repX k r), by rw [storedH_old hp, fz_rep], pf_rep rv pr⟩
    · rw [if_neg hn]
      refine ⟨ys ++ [(k, b, r)], ?_, pf_snoc ⟨rfl, rfl, rv⟩ pr⟩
      rw [storedH_new (atKey_fnew (by rw [fkeys_of pr]; exact hn))]
      unfold fz
      rw [List.map_append]
      rfl
  rw [ez] at dd'
  obtain ⟨o', es, ep, a1, a2, a3, a4, a5, a6⟩ := dd'
  refine ⟨σ, _, ?_, q3 b rfl⟩
  refine I3.write (x := q) (e := q) (by rw [e1]; exact True.intro) (.inl rfl) (fun c z hc y => (hb.2 c hc).trans y) ⟨_, a1⟩ ⟨⟨zs, prz, o', es, ep, a1, a2, a3, fun w => ?_, ?_⟩, ⟨_, a1⟩, fdO_stay⟩
  · rw [a4]
    unfold fz
    rw [List.map_map]
    refine List.map_congr_left fun x hx => ?_
    show (⟨(fkey x.1).hash X.w, _, _⟩ : DictEntry) = _
    rw [fkey_hash X.w w]
  · have e2 : (fz zs).map (·.1) = (zs.map (·.1)).map fkey := by
      unfold fz
      rw [List.map_map, List.map_map]
      rfl
    rw [e2] at a6
    exact (List.pairwise_map.mp a6).imp fun {a b} n q => n (by rw [q])
end
section
variable {X : Cx} {rs : Rs} {M : Mem} {ρ : List (Option Ab)} {o i e f : Expr} {pos apos p pos' : Pos} {yf : Ab} {q : Addr} {b : Bool} {kvs : List (FK × Ab)} {ky : FK} {Ff : Addr → Prop} {S : Sta} {D : AE} {R : Ab → Prop} {k : Nat}
theorem de_fget (hu : X.A.units + 64 < cLine) (ho : DE X rs M ρ o (Is (.at q))) (hM : (⟨q, b, .fd kvs⟩ : Me) ∈ M) (hi : DE X rs M ρ e (Is (.d (fkD ky)))) (hf : DE X rs M ρ f (Is yf)) (m : M2 X o "get" apos e f pos) : DE X rs M ρ (.Call (.Attribute o "get" apos) [e, f] [] pos) (Is ((valF kvs ky).getD yf)) :=
  pe_weak (pe_fget hu ho hi hf m) fun σ H Q ⟨G, l, ok, kk⟩ => tD_go l ok fun v z G1 H1 rz rep1 l1 ok1 n1 => by
    subst rz
    have rep1 : v = .ref q := rep1
    subst rep1
    obtain ⟨_, _, xs, e1, e2, e3, e4, e5⟩ := ok1.m _ hM
    refine ⟨q, rfl, ⟨xs, G1, e1, ok1.gh, e5⟩, G1, l1, ok1, fun y c G2 H2 rc rep2 n2 => ?_⟩
    subst rc
    have ok2 := ok1.nxt n2
    refine ⟨G2, l1.same n2.g, ok2, fun z c2 G3 H3 rc2 rep3 n3 => ?_⟩
    subst rc2
    have ok3 := ok2.nxt n3
    refine ⟨G3, kvs, ky, ok3.gh, (ok3.m _ hM).2.2, dp_same n3.g _ _ rep2, fun hv => kk z _ G3 H3 (by rw [hv]; rfl) rep3 ((n1.trans n2 ok).trans n3 ok), fun a u hv ru => kk u _ G3 H3 (by rw [hv]; rfl) ru ((n1.trans n2 ok).trans n3 ok)⟩
theorem dx_fnew {U : Sta → Ab → Prop} (k : ∀ q, U ⟨S.rs, ⟨q, true, .fd []⟩ :: S.M, S.ρ⟩ (.at q)) : DX X Ff S (.Dict [] [] pos) U := fun G0 H0 =>
  pe_weak pe_fnew fun σ H Q ⟨G, s, kk⟩ p hp hs => by
    have n := Nxt.newM (o := FdO p []) s.ok hp
    exact kk _ (.ref p) (.at p) G _ (k p) rfl (s.pushM n ⟨[], upd_same, hs, rfl, trivial, fun x hx => absurd hx List.not_mem_nil⟩ (s.ok.gnone hp) hp) n.g
theorem repX_all {K : PySem.W.Frag} {G : Hp} {v : V} {a : Ab} (rv : Rep K G v a) : ∀ {xs : List (FK × Addr × V)} {kvs : List (FK × Ab)}, xs.map (·.1) = kvs.map (·.1) → RepAll K G (xs.map (·.2.2)) (kvs.map (·.2)) →
    (xs.map (repX ky v)).map (·.1) = (kvs.map (fun kv => if kv.1 = ky then (ky, a) else kv)).map (·.1) ∧ RepAll K G ((xs.map (repX ky v)).map (·.2.2)) ((kvs.map (fun kv => if kv.1 = ky then (ky, a) else kv)).map (·.2))
  | [], [], _, _ => ⟨rfl, trivial⟩
  | x :: xs, kv :: kvs, e, r => by
    rw [List.map_cons, List.map_cons] at e
    obtain ⟨e1, e2⟩ := List.cons.inj e
    rw [List.map_cons, List.map_cons] at r
    obtain ⟨h1, h2⟩ := repX_all rv e2 r.2
    simp only [List.map_cons]
    rw [h1]
    by_cases z : kv.1 = ky
    · have z2 : x.1 = ky := e1.trans z
      refine ⟨?_, ?_⟩
      · rw [if_pos z]
        unfold repX
        rw [if_pos z2, z2]
      · unfold repX
        rw [if_pos z, if_pos z2]
        exact ⟨rv, h2⟩
    · have z2 : ¬ x.1 = ky := fun q => z (e1 ▸ q)
      refine ⟨?_, ?_⟩
      · rw [if_neg z]
        unfold repX
        rw [if_neg z2, e1]
      · unfold repX
        rw [if_neg z, if_neg z2]
        exact ⟨r.1, h2⟩
  | [], _ :: _, e, _ => by cases e
  | _ :: _, [], e, _ => by cases e
theorem ds_fput (hu : X.A.units + 64 < cLine) (he : DE X S.rs S.M S.ρ e R) (ho : DE X S.rs S.M S.ρ o (Is (.at q))) (hi : DE X S.rs S.M S.ρ i (Is (.d (fkD ky)))) (hM : S.M[k]? = some ⟨q, true, .fd kvs⟩) (hl : kvs.length ≤ 100000)
    (kk : ∀ a, R a → D.nx ⟨S.rs, S.M.set k ⟨q, true, .fd (putF kvs ky a)⟩, S.ρ⟩) (hs : swapsWith e (some (.Subscript o i pos')) pos.line X.env = pure false := by rfl) : DS X Ff S (.Assign [.Subscript o i pos'] e pos) D := fun G0 H0 =>
  ps_weak (ps_fput hu ho hi he hs) fun De σ H ⟨G, s, nx, _⟩ => ⟨G, s.loc, s.ok, fun v a G1 H1 ra rep1 n1 => by
    have s1 := s.nxt n1
    refine ⟨G1, s1.loc, s1.ok, fun u z G2 H2 rz rep2 n2 => ?_⟩
    subst rz
    have rep2 : u = .ref q := rep2
    subst rep2
    have s2 := s1.nxt n2
    refine ⟨G2, s2.loc, s2.ok, fun y c G3 H3 rc rep3 n3 => ?_⟩
    subst rc
    have s3 := s2.nxt n3
    obtain ⟨_, _, xs, e1, e2, e3, e4, e5⟩ := s3.ok.m _ (List.mem_of_getElem? hM)
    have hlen : xs.length = kvs.length := by rw [← List.length_map (f := (·.1)), e3, List.length_map]
    refine ⟨G3, q, xs, ky, s3.ok.gh, rfl, e1, e5, by omega, rep3, fun b eb => ?_⟩
    have rv := rep1.same (n2.g.trans n3.g)
    refine nx _ σ G3 _ (kk a ra) (s3.chg (u := FdO q (putX xs ky b v)) hM ⟨_, upd_same, e2, ?_, ?_, fun x hx => ?_⟩)
    · unfold putX putF
      rw [e3]
      split
      · exact (repX_all rv e3 e4).1
      · rw [List.map_append, List.map_append, e3]
        rfl
    · unfold putX putF
      rw [e3]
      split
      · exact (repX_all rv e3 e4).2
      · rw [List.map_append, List.map_append]
        exact RepAll.append e4 ⟨rv, trivial⟩
    · unfold putX at hx
      split at hx
      · obtain ⟨x0, hx0, rfl⟩ := List.mem_map.mp hx
        have : (repX ky v x0).2.1 = x0.2.1 ∧ (repX ky v x0).1 = x0.1 := by
          unfold repX
          split <;> exact ⟨rfl, rfl⟩
        rw [this.1, this.2]
        exact e5 x0 hx0
      · rcases List.mem_append.mp hx with hx | hx
        · exact e5 x hx
        · rw [List.mem_singleton.mp hx]
          rw [← eb]
          exact rep3⟩
end
end HW
/-! Own layer, part Ta: tables of code objects beside what may be changed; sorted by a lambda. -/
namespace HW
open PySem PySem.Spec PyProof.Rows L2 RZ

abbrev TabL := List (Addr × Str)
theorem tabS_stay {H H' : Hp} {P : Addr} {q : Str} (t : LamX.TabS H P q) (h : ∀ ps, H P = some (.tbl ps) → H' P = some (.tbl ps)) (c : ∀ c, H c = some (LamX.CodeO c q) → H' c = some (LamX.CodeO c q)) : LamX.TabS H' P q := by
  obtain ⟨ps, e1, e2, e3⟩ := t
  refine ⟨ps, h ps e1, e2, fun pos cv z => ?_⟩
  obtain ⟨c', z1, z2⟩ := e3 pos cv z
  exact ⟨c', z1, c c' z2⟩
/-- with tables that may grow -/
def tRs (rs : Rs) (T : TabL) : Rs where
  F := fun b => rs.F b ∨ b ∈ T.map (·.1)
  I := fun H => rs.I H ∧ LamX.Tabs T H
  has := fun H b ⟨i, t⟩ f => f.elim (rs.has H b i) fun hb => by
    obtain ⟨p, hp, rfl⟩ := List.mem_map.mp hb
    obtain ⟨ps, e, _⟩ := t p hp
    exact ⟨_, e⟩
  st := fun H H' ⟨i, t⟩ k => ⟨rs.st H H' i fun b o f => k b o (f.imp .inl id), fun p hp => tabS_stay (t p hp) (fun ps e => k _ _ (.inl (.inr (List.mem_map.mpr ⟨p, hp, rfl⟩))) e) fun c e => k _ _ (.inr ⟨_, rfl⟩) e⟩
/-- what may be changed is no table and no code object -/
def NoTab (rs : Rs) : Prop := ∀ H b o, rs.I H → rs.F b → H b = some o → (∀ ps, o ≠ .tbl ps) ∧ ¬ Cod b o
theorem noTab0 : NoTab rs0 := fun _ _ _ _ f _ => f.elim
theorem noTab2 (D C : Addr) : NoTab (deckRs2 D C) := fun H b o ⟨cells, m, h1, h2, _⟩ f e => by
  rcases f with rfl | rfl
  · rw [h1] at e
    cases Option.some.inj e
    exact ⟨fun ps z => (nomatch z), fun ⟨q, z⟩ => nomatch z⟩
  · rw [h2] at e
    cases Option.some.inj e
    exact ⟨fun ps z => (nomatch z), fun ⟨q, z⟩ => nomatch z⟩
section
variable {K : PySem.W.Frag} {rs : Rs} {T : TabL} {M : Mem} {G H G1 H1 : Hp}
theorem Ok.small (ok : Ok K (tRs rs T) M G H) : Ok K rs M G H := ⟨ok.gh, fun b f => ok.sep b (.inl f), ok.i.1, fun e he => ⟨(ok.m e he).1, fun f => (ok.m e he).2.1 (.inl f), (ok.m e he).2.2⟩, ok.nd⟩
theorem Nxt.big (nt : NoTab rs) (ok : Ok K (tRs rs T) M G H) (n : Nxt rs G H G1 H1) : Nxt (tRs rs T) G H G1 H1 where
  g := n.g
  gh := n.gh
  h := fun b o e f => n.h b o e fun z => f (.inl z)
  nw := n.nw
  i := ⟨n.i, fun p hp => tabS_stay (ok.i.2 p hp) (fun ps e => n.h _ _ e fun f => (nt H _ _ ok.i.1 f e).1 ps (Eq.refl _)) fun c e => n.h _ _ e fun f => (nt H _ _ ok.i.1 f e).2 ⟨_, Eq.refl _⟩⟩
end
section
variable {X : Cx} {rs : Rs} {T : TabL} {M : Mem} {ρ : List (Option Ab)} {e : Expr} {es : List Expr} {x : Str} {p pos : Pos} {R : Ab → Prop}
/-- a call of a def that knows of no tables -/
theorem de_callF {U : List Ab → Prop} {S : Rs → Mem → List Ab → (Ab → Prop) → Prop} {CX : CXT} {k : Nat} {f : Addr} {fd : FuncData} {ps : List Str} {E : XK} (nt : NoTab rs) (F : FnG X.prog X.w X.K X.mg X.base CX k f fd ps (Spec X.K S)) (hr : Room k X.A) (gd : X.A.guards = some []) (hg : Gl X x) (hm : X.mg x = some (.ref f))
    (hk : PySem.W.keepIn X.K (.ref f) = true) (hb : Binds X.K fd ps []) (hx : Passes CX X E) (ha : DA X (tRs rs T) M ρ (e :: es) U) (h : ∀ as, U as → S rs [] as R)
    (hdb : (x == ("__debug__" : Str)) = false := by decide) (he : starEach (e :: es) X.env = (false, eval e X.env) :: starEach es X.env := by rfl) (hpl : (backTo pos (starEach es X.env)).any (·.1) = false := by rfl) : DE X (tRs rs T) M ρ (.Call (.Name x p) (e :: es) [] pos) R :=
  pe_weak (pe_callG (E := E) F hr gd hg hm hk hb .nil hx ha hdb he hpl) fun σ H Q ⟨G, l, ok, k⟩ => ⟨G, l, ok, fun vs as G1 H1 ra rep n => ⟨rs, [], as, R, G1, h as ra, fun _ z => absurd z List.not_mem_nil, by rw [List.append_nil]; exact rep, (ok.nxt n).small.sub (fun _ z => absurd z List.not_mem_nil) (fun _ _ _ _ z => by simp at z), fun z y G2 H2 r rep2 n2 => k z y G2 H2 r rep2 (n.trans (n2.big nt (ok.nxt n)) ok)⟩⟩
theorem dn_callF {U : List Ab → Prop} {R : List Ab → Prop} {S : Rs → Mem → List Ab → (List Ab → Prop) → Prop} {CX : CXT} {k : Nat} {f : Addr} {fd : FuncData} {ps : List Str} {E : XK} (nt : NoTab rs) (F : FnG X.prog X.w X.K X.mg X.base CX k f fd ps (SpecN X.K S)) (hr : Room k X.A) (gd : X.A.guards = some []) (hg : Gl X x) (hm : X.mg x = some (.ref f))
    (hk : PySem.W.keepIn X.K (.ref f) = true) (hb : Binds X.K fd ps []) (hx : Passes CX X E) (ha : DA X (tRs rs T) M ρ (e :: es) U) (h : ∀ as, U as → S rs [] as R)
    (hdb : (x == ("__debug__" : Str)) = false := by decide) (he : starEach (e :: es) X.env = (false, eval e X.env) :: starEach es X.env := by rfl) (hpl : (backTo pos (starEach es X.env)).any (·.1) = false := by rfl) : DN X (tRs rs T) M ρ (.Call (.Name x p) (e :: es) [] pos) R :=
  pe_weak (pe_callG (E := E) F hr gd hg hm hk hb .nil hx ha hdb he hpl) fun σ H Q ⟨G, l, ok, k⟩ => ⟨G, l, ok, fun vs as G1 H1 ra rep n => ⟨rs, [], as, R, G1, h as ra, fun _ z => absurd z List.not_mem_nil, by rw [List.append_nil]; exact rep, (ok.nxt n).small.sub (fun _ z => absurd z List.not_mem_nil) (fun _ _ _ _ z => by simp at z), fun q ws bs G2 H2 r rep2 e2 g2 h1 n2 => k q ws bs G2 H2 r rep2 e2 g2 (fresh_of ok n h1) (n.trans (n2.big nt (ok.nxt n)) ok)⟩⟩
end
/-! ### the law's deck beside the tables -/
section
variable {P : Program} {w : World} {K : PySem.W.Frag} {mg : Str → Option Value} {base : Heap} {k : Nat} {f : Addr} {fd : FuncData} {ps N : List Str} {x qual : Str} {st : Stmt} {T : TabL}
theorem ds_deckT {X : Cx} {Ff : Addr → Prop} {D' : AE} {ρ : List (Option Ab)} {e : Expr} {y z : Str} {p pos' pos cpos : Pos} {ns : List Int} (i : Nat) (F : FnG X.prog X.w X.K X.mg X.base CX0 k f fd ps (SpecDeck2 X.K)) (hr : Room k X.A) (gd : X.A.guards = some []) (hm : X.mg z = some (.ref f)) (hk : PySem.W.keepIn X.K (.ref f) = true)
    (hb : Binds X.K fd ps []) (he : DE X (tRs rs0 T) [] ρ e (Is (aScr X.K ns))) (hl : ns.length ≤ 63) (kk : ∀ D C, D'.nx ⟨tRs (deckRs2 D C) T, [], ρ.set i (some (.at D))⟩) (hN : X.N.Nodup) (hg : Gl X z := by rfl) (hi : X.N[i]? = some y := by rfl) (hx : L2.Loc X.env.scope y := by first | exact Or.inl rfl | exact Or.inr rfl)
    (hs : swapsWith (.Call (.Name z p) [e] [] cpos) (some (.Name y pos')) pos.line X.env = pure false := by rfl) (hf : X.fn y = true ∨ X.env.scope.names.lookup y = some .local := by first | exact .inl rfl | exact .inr rfl)
    (hdb : (z == ("__debug__" : Str)) = false := by decide) (hst : starEach [e] X.env = (false, eval e X.env) :: starEach [] X.env := by rfl) (hpl : (backTo cpos (starEach [] X.env)).any (·.1) = false := by rfl) :
    DS X Ff ⟨tRs rs0 T, [], ρ⟩ (.Assign [.Name y pos'] (.Call (.Name z p) [e] [] cpos) pos) D' := by
  intro G0 H0
  have ha : DA X (tRs rs0 T) [] ρ [e] (fun as => as = [aScr X.K ns]) := da_cons he da_nil hst
  refine ps_weak (ps_set hN hi hx (pe_callG (E := E0) F hr gd hg hm hk hb .nil pass0 ha hdb hst hpl) hs hf) fun De σ H h => ?_
  obtain ⟨G, s, n, _⟩ := h
  show tDA X.K (tRs rs0 T) [] ρ (fun as => as = [aScr X.K ns]) σ H (fun vs H1 => SpecDeck2 X.K (vs ++ []) H1 (fun v H2 => De.nx (σ.set i (some v)) H2) E0)
  refine ⟨G, s.loc, s.ok, fun vs as G1 H1 ra rep n1 => ?_⟩
  subst ra
  obtain ⟨v, e1, r⟩ := repAll_one rep
  subst e1
  have s1 := s.nxt n1
  refine ⟨ns, G1, v, tRs rs0 T, rfl, r, hl, s1.ok, fun D C G' H' n2 id_ g1 g2 h1 h2 => ?_⟩
  have s2 := s1.nxt n2
  have back : ∀ b, H1 b = none → H0.1 b = none := fun b hb => by
    cases q : H0.1 b with
    | none => rfl
    | some u =>
      obtain ⟨o', e'⟩ := s1.lie.al b u q
      rw [hb] at e'
      cases e'
  refine n _ _ G' H' (kk D C) ⟨s2.loc.set (a := .at D) rfl i, ⟨s2.ok.gh, fun b f => ?_, ⟨id_, n2.i.2⟩, fun e he => absurd he List.not_mem_nil, fun _ _ _ _ z => by simp at z⟩, s2.lie, fun e he => absurd he List.not_mem_nil, fun b f => ?_⟩
  · rcases f with (rfl | rfl) | f
    · exact g1
    · exact g2
    · exact s2.ok.sep b (.inr f)
  · rcases f with (rfl | rfl) | f
    · exact .inl (back _ h1)
    · exact .inl (back _ h2)
    · exact s2.fr b (.inr f)
def S_lawT (K : PySem.W.Frag) (T : TabL) (rs : Rs) (M : Mem) (as : List Ab) (R : Ab → Prop) : Prop := ∃ ns : List Int, rs = tRs rs0 T ∧ as = [aScr K ns] ∧ ns.length ≤ 63 ∧ R = Is (aB true)
theorem fn_lawT (F : Fun K x qual st f fd) (Sc : FnScope N ["script"] (defScope st))
    (body : ∀ (cdv : Value) (A : Around) (outer : List Env) (s : Shared) (H0 : Hp) (E : XK), Room k (A.deeper (envOfC qual (defScope st) s.heap.objs.size f cdv)) → A.guards = some [] → ∀ ns : List Int, ns.length ≤ 63 →
      DSs (bodyCx P w K mg base N qual st f cdv A outer s H0 E) (tRs rs0 T).F ⟨tRs rs0 T, [], startA N [aScr K ns]⟩ (defBody st) ⟨fun _ => False, fun rs2 _ a => (∃ rs, rs2 = tRs rs T) ∧ a = aB true, fun _ => False, fun _ => False⟩) :
    FnG P w K mg base CX0 (k + 1) f fd ["script"] (Spec K (S_lawT K T)) := by
  refine fn_goF F Sc (fun rs M as R ⟨_, _, h, _⟩ => by rw [h]; rfl) fun cdv A outer s H0 E room gd rs M as R t ro G H vs reps ok => ?_
  obtain ⟨ns, rfl, rfl, hl, rfl⟩ := t
  refine ⟨tRs rs0 T, [], ok.sub (fun _ z => absurd z List.not_mem_nil) (fun _ _ _ _ z => by simp at z), fun _ z => absurd z List.not_mem_nil, fun _ z => z, ?_⟩
  exact fun G1 H1 => pss_weak (body cdv A outer s H0 E room gd ns hl G1 H1) fun De σ H ⟨G, st, n, r, b, c⟩ => ⟨G, st, fun S' σ' G' H' q => q.elim, fun rs2 M2 v a G' H' ⟨⟨rs, e⟩, q⟩ => r rs2 M2 v a G' H' ⟨q, fun G2 H2 o => by subst e; exact ⟨trivial, o.i.2⟩⟩, b, c⟩
theorem law_startT {H : Hp} {a : Addr} {ns : List Int} {E : XK} (hl : ns.length ≤ 63) (hT : ∀ p ∈ T, H p.1 = some (.tbl #[])) (hS : SqL K H a (ns.map V.int)) : Spec K (S_lawT K T) [.ref a] H (fun v _ => v = .bl true) E := by
  classical
  have hG : ∀ b o, (fun b => if b ∈ T.map (·.1) then none else H b : Hp) b = some o → H b = some o := fun b o e => by
    by_cases hb : b ∈ T.map (·.1)
    · rw [show (fun b => if b ∈ T.map (·.1) then none else H b : Hp) b = none from if_pos hb] at e
      cases e
    · rwa [show (fun b => if b ∈ T.map (·.1) then none else H b : Hp) b = H b from if_neg hb] at e
  have hS2 : SqL K (fun b => if b ∈ T.map (·.1) then none else H b) a (ns.map V.int) := by
    have nb : ∀ o, H a = some o → (∀ ps, o ≠ .tbl ps) → (fun b => if b ∈ T.map (·.1) then none else H b : Hp) a = some o := fun o e n => by
      refine (if_neg fun hb => ?_).trans e
      obtain ⟨p, hp, rfl⟩ := List.mem_map.mp hb
      rw [hT p hp] at e
      exact n _ (Option.some.inj e).symm
    rcases hS with (h | ⟨o, h⟩) | h
    · exact .inl (.inl (nb _ h fun ps z => nomatch z))
    · exact .inl (.inr ⟨o, nb _ h fun ps z => nomatch z⟩)
    · exact .inr h
  refine ⟨tRs rs0 T, [], [aScr K ns], Is (aB true), _, ⟨ns, rfl, rfl, hl, rfl⟩, fun _ z => absurd z List.not_mem_nil, ⟨⟨_, fun _ _ h => h, a, rfl, hS2⟩, trivial⟩, ⟨hG, fun b h => ?_, ⟨trivial, fun p hp => LamX.TabS.nil (hT p hp)⟩, fun _ z => absurd z List.not_mem_nil, fun _ _ _ _ z => by simp at z⟩, fun z y G' H' r rep n => ?_⟩
  · rcases h with h | h
    · exact h.elim
    · exact if_pos h
  · subst r
    cases rep
    rfl
end
end HW
/-! Own layer, part Tb: sorted(rows, key=lambda row: row[0]). -/
namespace HW
open PySem PySem.Spec PyProof.Rows L2 RZ

/-- the key of a row: its first item -/
def keyD : PyData → PyData
  | .tuple (d :: _) => d
  | _ => .none
/-- a row: a tuple whose first item is a tuple of numbers, not empty -/
def RowK (d : PyData) : Prop := ∃ (n : Int) (ns : List Int) (r : List PyData), d = .tuple (.tuple ((n :: ns).map .int) :: r)
def sortD (ds : List PyData) : List PyData := ds.mergeSort (PySem.W.dataLe false keyD)
section
variable {prog : Program} {w : World} {A : Around} {s : Shared}
/-- the lambda called -/
theorem lam_call {E : Value → Shared → Prop} {Q : Value → Shared → Prop} {f c' t : Addr} {qual x : Str} {params : Arguments} {scope : Scope} {cl : List (Str × Addr)} {pm ctv u : Value} {q : Nat} {p1 p2 p3 : Pos} {items : Array Value}
    (hf : s.heap.get? f = some (PySem.W.kla_obj "<lambda>" qual params (.Subscript (.Name x p1) (.Constant (.int 0) q p2) p3) scope cl pm c' ctv)) (rc : s.heap.CodeRec (.ref c') qual) (room : A.depth < recursionLimit) (lim : s.heap.NoLimit)
    (hb : ∀ v, bindArgs (PySem.W.kla_fn "<lambda>" qual params (.Subscript (.Name x p1) (.Constant (.int 0) q p2) p3) scope cl pm (.ref c') ctv) ⟨[v], []⟩ = pure [(x, v)]) (hx : scope.names.lookup x = some .local) (hc : ∀ y ∈ scope.names, y.2 ≠ .cell)
    (hco : scope.isCoroutine = false) (hgen : scope.isGenerator = false) (hk : scope.kind = .function) (hd : (x == ("__debug__" : Str)) = false) (ht : IsTup s.heap t items) (hu : items[0]? = some u)
    (h : ∀ h' tk, (∀ b o, s.heap.get? b = some o → h'.get? b = some o) → Q u { s with heap := h', toks := tk }) : wpAny (model prog w) A (call (.ref f) [.ref t]) Q E s := by
  refine wpAny_call (PySem.W.kla_callFunE room hf rfl hco hgen rfl rc ?_)
  rw [hb]
  refine wpAny_pure (wpAny_newFunctionEnv hc (fun y hy => ?_) (fun h₁ hns hsb => ⟨lim.fresh _ hsb, ?_⟩) hk)
  · rw [List.mem_singleton.mp hy]
    exact hx
  have kp : ∀ b o, s.heap.get? b = some o → h₁.get? b = some o := fun b o e => hsb.extBut b o (Nat.ne_of_lt (Heap.lt_size e)) (Heap.get?_push_of_some _ e)
  refine PySem.W.kla_codeExpr ?_
  refine Subscript_ (wpAny_Name (wpAny_loadName_local hk (v := .ref t) (by exact hx) hns (by simp) ?_) hd)
  refine wpAny_Constant_int ?_
  exact item_tuple (j := 0) (ht.keeps kp) (by decide) (by decide) (by
    have z : 0 < items.size := (Array.getElem?_eq_some_iff.mp hu).1
    exact PySem.seqIndex_of (Int.le_refl 0) (by omega)) hu (h _ _ kp)
end
section
variable {X : Cx} {pins : List (Addr × Obj)} {σ : L2.St} {H : Hp} {s : Shared}
theorem ints_readsAll : ∀ {ns : List Int} {us : List Value}, Vals (ns.map V.int) us → ReadsAll s.heap us (ns.map .int) []
  | [], _, h => by
    cases h
    exact .nil
  | n :: ns, _, h => by
    cases h with
    | cons h1 h2 =>
      obtain ⟨t, rfl⟩ := h1
      exact ReadsAll.cons (as := []) (bs := []) (.int n t) (ints_readsAll h2)
theorem ints_reads (I : Inv X pins σ H s) {ns : List Int} {v : V} {u : Value} (h : Dp X.K H v (.tuple (ns.map .int))) (r : RelV v u) : Reads s.heap u (.tuple (ns.map .int)) [] := by
  cases h with
  | tup sq ra =>
    have e := dpAll_ints ra
    subst e
    obtain ⟨its, rv, ⟨o, h1, h2, n, h3⟩, _⟩ := I.tuple sq
    obtain rfl : u = Value.ref _ := r
    exact .tuple h1 h2 h3 (by simpa using ints_readsAll rv)
theorem reads_kept {h h' : Heap} (k : ∀ b o, h.get? b = some o → h'.get? b = some o) {u : Value} {d : PyData} (r : Reads h u d []) : Reads h' u d [] := PyProof.Rows.Reads.keeps k r
theorem alike_rows (a b : PyData) (ha : RowK a) (hb : RowK b) : PySem.W.alike (keyD a) (keyD b) = true := by
  obtain ⟨n, ns, r, rfl⟩ := ha
  obtain ⟨m, ms, q, rfl⟩ := hb
  show PySem.W.alike (.tuple ((n :: ns).map .int)) (.tuple ((m :: ms).map .int)) = true
  simp only [PySem.W.alike]
  exact PySem.W.alike_ints _ _
theorem vals_each {G : Hp} {R : Value → PyData → Prop} : ∀ {vs : List V} {us : List Value} {ds : List PyData}, Vals vs us → DpAll X.K G vs ds → (∀ v u d, RelV v u → Dp X.K G v d → d ∈ ds → R u d) → PySem.W.EachIs R us ds
  | [], _, _, hv, hd, _ => by
    cases hv
    cases hd
    exact .nil
  | _ :: _, _, _, hv, hd, h => by
    cases hv with
    | cons v1 v2 =>
      cases hd with
      | cons d1 d2 => exact .cons (h _ _ _ v1 d1 List.mem_cons_self) (vals_each v2 d2 fun v u d r1 r2 m => h v u d r1 r2 (List.mem_cons_of_mem _ m))
theorem each_vals {G : Hp} : ∀ {us : List Value} {ds : List PyData}, PySem.W.EachIs (fun u d => ∃ v, RelV v u ∧ Dp X.K G v d) us ds → ∃ vs, Vals vs us ∧ DpAll X.K G vs ds
  | _, _, .nil => ⟨[], .nil, .nil⟩
  | _, _, .cons ⟨v, h1, h2⟩ t => by
    obtain ⟨vs, a, b⟩ := each_vals t
    exact ⟨v :: vs, .cons h1 a, .cons h2 b⟩
end
/-- sorted(e, key=lambda x: x[0]) -/
structure LamK (X : Cx) (T : TabL) (c P : Addr) (params : Arguments) (scope : Scope) (x : Str) (q : Nat) (p1 p2 p3 : Pos) : Prop where
  tb : LamX.TabB X.base X.mg c P
  code : X.env.code = .ref c
  mem : (P, X.env.qual ++ "<lambda>") ∈ T
  one : ∀ p ∈ T, p.1 = P → p.2 = X.env.qual ++ "<lambda>"
  dflt : defaultsOf params X.env = ([], [])
  names : scope.names.lookup x = some .local ∧ (∀ y ∈ scope.names, y.2 ≠ .cell) ∧ (∀ y ∈ scope.names, y.2 ≠ .free) ∧ scope.isCoroutine = false ∧ scope.isGenerator = false ∧ scope.kind = .function ∧ (x == ("__debug__" : Str)) = false
  bind : ∀ (qual : Str) (cl : List (Str × Addr)) (pm cd ctv v : Value), bindArgs (PySem.W.kla_fn "<lambda>" qual params (.Subscript (.Name x p1) (.Constant (.int 0) q p2) p3) scope cl pm cd ctv) ⟨[v], []⟩ = pure [(x, v)]
section
variable {X : Cx} {pins : List (Addr × Obj)} {σ : L2.St} {H : Hp} {s : Shared} {T : TabL}
/-- the lambda made: all stays but its table, which grows, or nothing changes -/
theorem lam_new {c P : Addr} {params : Arguments} {body : Expr} {scope : Scope} {pos : Pos} {E Q : Value → Shared → Prop} {nm : Str} (inv : Inv X pins σ H s) (tb : LamX.TabB X.base X.mg c P) (code : X.env.code = .ref c) (en : nm = X.env.qual ++ "<lambda>")
    (mem : (P, nm) ∈ T) (one : ∀ p ∈ T, p.1 = P → p.2 = nm) (tabs : LamX.Tabs T H) (dflt : defaultsOf params X.env = ([], [])) (free : ∀ y ∈ scope.names, y.2 ≠ .free)
    (k : ∀ (f c2 : Addr) (pm ctv : Value) (H2 : Hp) (s2 : Shared), Inv X pins σ H2 s2 → (∀ b o, b ≠ P → H b = some o → H2 b = some o) → LamX.Tabs T H2 →
      s2.heap.get? f = some (PySem.W.kla_obj "<lambda>" nm params body scope (cloFrom X.env.cells scope.names []) pm c2 ctv) → H2 c2 = some (LamX.CodeO c2 nm) → (∀ b, H b = none → b = c2 ∨ H2 b = none) → Q (.ref f) s2) :
    wpAny (model X.prog X.w) X.A (eval (.Lambda params body scope pos) X.env) Q E s := by
  subst en
  obtain ⟨ps, atP, tri, told⟩ := tabs _ mem
  have closed := closure_ok (scope := scope) (env := X.env) (fun y hy ey => absurd ey (free y hy))
  have objP : s.heap.get? P = some { cls := .none, data := .fields ps } := inv.hok P _ atP
  have blt := tb.bm.keeps inv.bk
  have hd := tb.code.keeps inv.bk
  have glob := inv.mod.glob.keeps inv.bk
  refine PySem.W.kla_eval dflt ?_
  match am : codeAmong pos ps.toList with
  | some cv =>
    obtain ⟨c2, rfl, isC⟩ := told pos cv am
    refine PySem.W.kla_makeFunctionHit (P := P) (c := c) (mg := X.mg) (ps := ps) closed inv.ok.glob glob code hd objP tri am blt ?_
    intro ctv h2 tk kept size
    exact k h2.objs.size c2 _ ctv H _ (inv.kept fun b o q => Heap.get?_push_of_some _ (kept b o q)) (fun _ _ _ q => q) tabs (Heap.get?_push_size _ rfl) isC (fun _ q => .inr q)
  | none =>
    refine PySem.W.kla_makeFunction (P := P) (c := c) (mg := X.mg) (ps := ps) closed inv.ok.glob glob code hd objP tri am tb.gP blt ?_
    intro c2 ctv h2 tk ext fresh below rec_ tab2
    obtain ⟨c3, oc, vs, t, e3, a1, a2, a3⟩ := rec_
    have e3 : c2 = c3 := by injection e3
    subst e3
    have none2 : H c2 = none := inv.hok.fresh fresh
    have I2 := LamX.inv_table (t' := tk) (q := X.env.qual ++ "<lambda>") (more := #[rawInt pos.line, rawInt pos.col, .ref c2]) (h' := h2.push (PySem.W.kla_obj "<lambda>" (X.env.qual ++ "<lambda>") params body scope (cloFrom X.env.cells scope.names []) ((X.mg "__name__").getD .none) c2 ctv)) inv atP
      (fun b o nb q => Heap.get?_push_of_some _ (ext b o nb q)) (Heap.get?_push_of_some _ tab2) fresh ⟨oc, vs, t, Heap.get?_push_of_some _ a1, a2, a3⟩
    have stay : ∀ b o, b ≠ P → H b = some o → upd (upd H P (.tbl (ps ++ #[rawInt pos.line, rawInt pos.col, .ref c2]))) c2 (LamX.CodeO c2 (X.env.qual ++ "<lambda>")) b = some o := fun b o nb q => by
      rw [upd_ne (ne_of_none q none2), upd_ne nb]
      exact q
    have noP : ∀ b q, H b = some (LamX.CodeO b q) → b ≠ P := fun b q z e => by
      subst e
      rw [atP] at z
      exact LamX.codeO_ne ps (Option.some.inj z).symm
    refine k _ c2 _ ctv _ _ I2 stay (fun p hp => ?_) (Heap.get?_push_size _ rfl) upd_same (fun b q => ?_)
    · by_cases hb : p.1 = P
      · have lst : (ps ++ #[rawInt pos.line, rawInt pos.col, Value.ref c2]).toList = ps.toList ++ [rawInt pos.line, rawInt pos.col, .ref c2] := by simp
        rw [one p hp hb, hb]
        refine ⟨_, by rw [upd_ne (ne_of_none atP none2), upd_same], by rw [lst]; exact PySem.TriplesOk_snoc _ _ _ _ tri, fun at_ cv z => ?_⟩
        rw [lst] at z
        rcases LamX.among_app _ tri z with z | z
        · obtain ⟨c0, z1, z2⟩ := told at_ cv z
          exact ⟨c0, z1, stay _ _ (noP _ _ z2) z2⟩
        · exact ⟨c2, z, upd_same⟩
      · exact tabS_stay (tabs p hp) (fun ps2 q => stay _ _ hb q) fun c0 q => stay _ _ (noP _ _ q) q
    · by_cases hb : b = c2
      · exact .inl hb
      · refine .inr ?_
        rw [upd_ne hb, upd_ne (ne_of_none atP q).symm]
        exact q
end
section
variable {X : Cx} {rs : Rs} {T : TabL} {M : Mem} {ρ : List (Option Ab)} {e : Expr} {p pos kp lp p1 p2 p3 : Pos} {c P : Addr} {params : Arguments} {scope : Scope} {x : Str} {q : Nat} {y : Ab} {ds : List PyData}
theorem dn_sortK (nt : NoTab rs) (L : LamK X T c P params scope x q p1 p2 p3) (room : Room 1 X.A) (hm : X.mg "sorted" = none) (ha : DE X (tRs rs T) M ρ e (Is y)) (hs : ∀ G H v, Ok X.K (tRs rs T) M G H → Rep X.K G v y → ∃ a vs, v = .ref a ∧ SqL X.K H a vs ∧ DpAll X.K G vs ds) (hr : ∀ d ∈ ds, RowK d) (hl : ds.length ≤ 100000) (hg : Gl X "sorted" := by rfl)
    (he : starEach [e] X.env = (false, eval e X.env) :: starEach [] X.env := by rfl)
    (h1 : backTo pos (starEach [e] X.env) = (false, eval e X.env) :: backTo pos (starEach [] X.env) := by rfl) (h2 : (backTo pos (starEach [e] X.env)).any (·.1) = false := by rfl)
    (h3 : (backToKw pos (keywordEach [⟨some "key", .Lambda params (.Subscript (.Name x p1) (.Constant (.int 0) q p2) p3) scope lp, kp⟩] X.env)).all (·.1.isSome) = true := by rfl)
    (h4 : (backToKw pos (keywordEach [⟨some "key", .Lambda params (.Subscript (.Name x p1) (.Constant (.int 0) q p2) p3) scope lp, kp⟩] X.env)).any (·.1.isNone) = false := by rfl)
    (h5 : (backToKw pos (keywordEach [⟨some "key", .Lambda params (.Subscript (.Name x p1) (.Constant (.int 0) q p2) p3) scope lp, kp⟩] X.env)).filterMap (·.1) = [("key" : Str)] := by rfl) :
    DN X (tRs rs T) M ρ (.Call (.Name "sorted" p) [e] [⟨some "key", .Lambda params (.Subscript (.Name x p1) (.Constant (.int 0) q p2) p3) scope lp, kp⟩] pos) (fun as => as = (sortD ds).map .d) := by
  refine ⟨fun pins s σ H Q I h => ?_⟩
  obtain ⟨G, l, ok, k⟩ := h
  refine wpAny_Call_Name_kw (ld_blt I hg hm (by decide +kernel : bootBuiltins "sorted" = some (.builtin "sorted")) ?_ (by decide) (by decide))
  have ha1 : DA X (tRs rs T) M ρ [e] (fun as => as = [y]) := da_cons ha da_nil he
  refine PyProof.Rows.callWith_kw (thn (ha1.run pos pins s σ H (fun vs H1 => ∃ v G1, vs = [v] ∧ Rep X.K G1 v y ∧ Nxt (tRs rs T) G H G1 H1) I ⟨G, l, ok, fun vs as G1 H1 ra rep n => ?_⟩) fun us s1 got => ?_) h1 h2 h3 h4
  · subst ra
    obtain ⟨v, e1, r1⟩ := repAll_one rep
    exact ⟨v, G1, e1, r1, n⟩
  obtain ⟨vs, H1, I1, rv, v, G1, ev, rep, n1⟩ := got
  subst ev
  have ok1 := ok.nxt n1
  obtain ⟨a, ws, ea, sq, ra⟩ := hs G1 H1 v ok1 rep
  subst ea
  rw [h5]
  match us, rv with
  | [u], .cons r1 .nil =>
    obtain rfl : u = Value.ref a := r1
    refine PyProof.Rows.kws_cons (lam_new I1 L.tb L.code rfl L.mem L.one ok1.i.2 L.dflt L.names.2.2.1 fun f c2 pm ctv H2 s2 I2 stay T2 hf hco new2 => PyProof.Rows.kws_nil ?_)
    have gP : G1 P = none := ok1.sep P (.inr (List.mem_map.mpr ⟨_, L.mem, rfl⟩))
    have nP : ∀ b o, G1 b = some o → b ≠ P := fun b o z eb => by
      rw [eb, gP] at z
      cases z
    have gh2 : Same G1 H2 := fun b o z => stay b o (nP b o z) (ok1.gh b o z)
    have sqP : ∀ xs : List V, SqL X.K H1 a xs → SqL X.K H2 a xs := fun xs z => by
      have ne : ∀ o, H1 a = some o → (∀ ps, o ≠ .tbl ps) → a ≠ P := fun o w n e2 => by
        obtain ⟨ps, w2, _⟩ := ok1.i.2 _ L.mem
        rw [e2] at w
        have w2 : H1 P = some (.tbl ps) := w2
        rw [w2] at w
        exact n ps (Option.some.inj w).symm
      rcases z with (z | ⟨o, z⟩) | z
      · exact .inl (.inl (stay _ _ (ne _ z fun ps w => nomatch w) z))
      · exact .inl (.inr ⟨o, stay _ _ (ne _ z fun ps w => nomatch w) z⟩)
      · exact .inr z
    obtain ⟨its, r2, ⟨ol, nl, el, cl, dl, dd⟩, hz⟩ := I2.list (sqP ws sq)
    have rec_ : s2.heap.CodeRec (.ref c2) (X.env.qual ++ "<lambda>") := by
      obtain ⟨⟨oc, vs, t, w1, w2, w3⟩, _, _⟩ := I2.hok c2 _ hco
      exact ⟨c2, oc, vs, t, rfl, w1, w2, w3⟩
    have each : PySem.W.EachIs (fun u d => (∃ v, RelV v u ∧ Dp X.K G1 v d) ∧ d ∈ ds) its ds := vals_each r2 ra fun v u d w1 w2 m => ⟨⟨v, w1, w2⟩, m⟩
    have each' : PySem.W.EachIs (fun u d => ∃ v, RelV v u ∧ Dp X.K G1 v d) its ds := each.mono fun u d z => z.1
    refine PySem.W.sorted_key_data (b := false) keyD (show s2.heap.IsList a its.toArray from ⟨ol, el, cl, nl, dd⟩) each' (fun d hd d' hd' => ?_) (.inl fun d hd => ?_) (Nat.le_of_lt (lt_line hl)) (fun d hd => ?_) (PyProof.Rows.ksk_s1 _ _) (fun _ => PyProof.Rows.ksk_l1 _ _) (fun _ => PyProof.Rows.ksk_t1 _ _) (fun u d hR hd h' tk kp => ?_) (fun out cc h' tk kp fr at_ ln ea => ?_)
    · obtain ⟨d1, m1, rfl⟩ := List.mem_map.mp hd
      obtain ⟨d2, m2, rfl⟩ := List.mem_map.mp hd'
      exact alike_rows d1 d2 (hr d1 m1) (hr d2 m2)
    · obtain ⟨d1, m1, rfl⟩ := List.mem_map.mp hd
      obtain ⟨n, ns, r, rfl⟩ := hr d1 m1
      exact ⟨_, _, rfl⟩
    · obtain ⟨n, ns, r, rfl⟩ := hr d hd
      have z := (lay_ints (n :: ns)).2
      have un := room.un
      show X.A.units + 2 + PyData.depth (.tuple ((n :: ns).map .int)) < cLine
      simp only [PyData.depth, z]
      omega
    · obtain ⟨v, rv, dv⟩ := hR
      obtain ⟨n, ns, r, rfl⟩ := hr d hd
      cases dv with
      | tup sq2 ra2 =>
        cases ra2 with
        | cons k1 k2 =>
          obtain ⟨its2, rv2, tp, _⟩ := I2.tuple (sqT_same gh2 sq2)
          obtain rfl : u = Value.ref _ := rv
          match its2, rv2 with
          | u0 :: _, .cons r0 _ =>
            have rd := ints_reads I2 (dp_same gh2 _ _ k1) r0
            refine lam_call (s := { s2 with heap := h', toks := tk }) (kp _ _ hf) ?_ ?_ ?_ (fun v => L.bind _ _ _ _ _ v) L.names.1 L.names.2.1 L.names.2.2.2.1 L.names.2.2.2.2.1 L.names.2.2.2.2.2.1 L.names.2.2.2.2.2.2 (tp.keeps kp) (by simp) fun h'' tk' kp2 => ⟨h'', tk', rfl, kp2, reads_kept (fun b o z => kp2 b o (kp b o z)) rd⟩
            · obtain ⟨c3, oc, vs, t, w0, w1, w2, w3⟩ := rec_
              exact ⟨c3, oc, vs, t, w0, kp _ _ w1, w2, w3⟩
            · have dp := room.dp
              show X.A.depth < _
              omega
            · exact I2.nolimit.keeps kp
    · obtain ⟨vs', rv', rd'⟩ := each_vals ea
      have p2 : H2 (s2.heap.objs.size + 1) = none := I2.hok.fresh (Nat.le_succ _)
      have tblP : ∀ b o, H1 b = some o → (∀ ps, o ≠ .tbl ps) → b ≠ P := fun b o w n e2 => by
        obtain ⟨ps, w2, _⟩ := ok1.i.2 _ L.mem
        subst e2
        have w2 : H1 b = some (.tbl ps) := w2
        rw [w2] at w
        exact n ps (Option.some.inj w).symm
      have p1 : H1 (s2.heap.objs.size + 1) = none := by
        cases w : H1 (s2.heap.objs.size + 1) with
        | none => rfl
        | some o =>
          by_cases e2 : s2.heap.objs.size + 1 = P
          · obtain ⟨ps, w2, _⟩ := T2 _ L.mem
            have w2 : H2 P = some (.tbl ps) := w2
            rw [← e2, p2] at w2
            cases w2
          · have w2 := stay _ _ e2 w
            rw [p2] at w2
            cases w2
      have up : ∀ b o, H2 b = some o → upd H2 (s2.heap.objs.size + 1) (.lst vs') b = some o := fun b o w => by
        rw [upd_ne (ne_of_none w p2)]
        exact w
      have n2 : Nxt (tRs rs T) G1 H1 G1 (upd H2 (s2.heap.objs.size + 1) (.lst vs')) :=
        { g := Same.refl _
          gh := fun b o w => up b o (gh2 b o w)
          h := fun b o w f => up b o (stay b o (fun e2 => f (.inr (by rw [e2]; exact List.mem_map.mpr ⟨_, L.mem, rfl⟩))) w)
          nw := fun b o w => .inl w
          i := ⟨rs.st H1 _ ok1.i.1 fun b o f w => up b o (stay b o (tblP b o w (fun ps z => f.elim (fun f => (nt H1 b o ok1.i.1 f w).1 ps z) fun ⟨q2, z2⟩ => by
            rw [z2] at z
            exact LamX.codeO_ne ps z)) w), fun p' hp' => (T2 p' hp').ext up⟩ }
      have ln' : vs'.length ≤ sizeLine := by
        rw [rv'.length, ln]
        exact Nat.le_of_lt (lt_line hl)
      refine ⟨.ref (s2.heap.objs.size + 1), _, I2.laid (t' := tk) kp (Nat.le_succ _) (o := .lst vs') ⟨ln', out, cc, rv', at_⟩, rfl, ?_⟩
      exact k _ vs' _ G1 _ rfl (repAll_dp.mpr rd') upd_same (ok1.gnone p1) (fresh_of ok n1 p1) (n1.trans n2 ok)
end
end HW
/-! Own layer, part Tc: the law's own call, where tables of code objects are tracked. -/
namespace HW
open PySem PySem.Spec PyProof.Rows L2 RZ
section
variable {P : Program} {w : World} {K : PySem.W.Frag} {mg mb : Str → Option Value} {CX : CXT} {k : Nat} {fa a : Addr} {fd : FuncData} {x : Str} {sp : Sp} {s1 : Shared} {vs : List Value} {ns : List Int} {cs : List (Addr × Addr)}
/-- what is known of the tables where the law starts -/
structure Laid (K : PySem.W.Frag) (mg : Str → Option Value) (h : Heap) (cs : List (Addr × Addr)) : Prop where
  tab : ∀ p ∈ cs, h.get? p.2 = some { cls := .none, data := .fields #[] }
  out : ∀ p ∈ cs, K.lookup p.2 = none
  code : ∀ p ∈ cs, PySem.W.CodeHd h p.1 p.2
  blt : ∃ (bm : Addr) (ob : Obj), mg "__builtins__" = some (.ref bm) ∧ bm ≠ builtinsNs ∧ h.get? bm = some ob ∧ ob.cls = .type "module" ∧ ob.dict = some builtinsNs ∧ ob.data = .plain
theorem Laid.at {h : Heap} (L : Laid K mg h cs) {b : Addr} (hb : b ∈ cs.map (·.2)) : h.get? b = some { cls := .none, data := .fields #[] } := by
  obtain ⟨p, hp, rfl⟩ := List.mem_map.mp hb
  exact L.tab p hp
theorem law_fromT {H : Hp} (L : Laid K mg s1.heap cs) (KX : K.In s1.heap) (hns : s1.heap.Ns mainGlobals mg) (hb : s1.heap.Ns builtinsNs mb) (hbb : ∀ x : Str, x ≠ "__name__" → mb x = bootBuiltins x) (hlim : s1.heap.NoLimit) (hg : s1.gens = #[])
    (ha : s1.heap.get? a = some { cls := .type "list", data := .seq vs.toArray }) (hr : Room k callerA)
    (F : ∀ base : Heap, K.In base → base.Ns mainGlobals mg → (∀ p ∈ cs, LamX.TabB base mg p.1 p.2) → FnG P w K mg base CX k fa fd [x] sp) (hbind : ∀ (s : Shared) (u : Value), BindsTo s fd ⟨[u], []⟩ [(x, u)])
    (hsp : sp [.ref a] H (fun v _ => v = .bl true) fun _ _ _ => False) (hCX : ∀ e s', CX [] H s1 (fun _ _ _ => False) e s' → False)
    (at_ : ∀ p ∈ cs, H p.2 = some (.tbl #[])) (only : ∀ b, H b = none ∨ b ∈ cs.map (·.2) ∨ ∃ o xs, H b = some (.frz o (.lst xs))) (hok : HOk P w H s1.heap) (one : ∀ b, H b ≠ none → b = a ∨ b ∈ cs.map (·.2)) (out : H a ≠ none → K.lookup a = none) :
    codeAny (model P w) callerA (.call (.ref fa) ⟨[.ref a], []⟩) (fun r s' => r = .ok (.ret (.bool true)) ∧ OldK s1.heap s'.heap ∧ s'.os = s1.os ∧ AllBare s'.gens) s1 := by
  have other : ∀ {b : Addr} {o : Obj}, s1.heap.get? b = some o → (∀ us n, o.data ≠ .seq us n) → o.data ≠ .fields #[] → H b = none := by
    intro b o eo n1 n2
    match hH : H b with
    | none => rfl
    | some u =>
      rcases one b (fun z => by rw [z] at hH; cases hH) with same | same
      · rw [same, ha] at eo
        exact absurd (congrArg Obj.data (Option.some.inj eo)).symm (n1 _ _)
      · rw [L.at same] at eo
        exact absurd (congrArg Obj.data (Option.some.inj eo)).symm n2
  have ns : ∀ {b : Addr} {m : Str → Option Value}, s1.heap.Ns b m → (hidT s1.heap H).Ns b m := by
    rintro b m ⟨o, es, ep, eo, ed, more⟩
    exact Exists.intro o (Exists.intro es (Exists.intro ep (And.intro (hidT_get eo (other eo (fun us n z => by rw [ed] at z; cases z) (fun z => by rw [ed] at z; cases z))) (And.intro ed more))))
  have kin : K.In (hidT s1.heap H) := by
    intro b o lk
    refine hidT_get (KX b o lk) ?_
    match hH : H b with
    | none => rfl
    | some u =>
      have ne : H b ≠ none := fun z => by rw [z] at hH; cases hH
      rcases one b ne with same | same
      · have gone := out (same ▸ ne)
        rw [← same, lk] at gone
        cases gone
      · obtain ⟨p, hp, e⟩ := List.mem_map.mp same
        rw [← e, L.out p hp] at lk
        cases lk
  have mod : Mod K mg (hidT s1.heap H) := by
    obtain ⟨mc, l1, l2⟩ := hlim
    exact { kin := kin, glob := ns hns, blt := Exists.intro mb (And.intro (ns hb) hbb), nolimit := Exists.intro mc (And.intro (ns l1) l2) }
  have tb : ∀ p ∈ cs, LamX.TabB (hidT s1.heap H) mg p.1 p.2 := by
    intro p hp
    have tp := L.tab p hp
    have glob : ∀ b, s1.heap.get? b = some ({ cls := .none, data := .fields #[] } : Obj) → mainGlobals ≠ b := by
      rintro b eb rfl
      obtain ⟨o, es, ep, e, d, _⟩ := hns
      rw [eb] at e
      rw [← Option.some.inj e] at d
      cases d
    constructor
    · obtain ⟨o, us, file, tf, flags, tg, inF, text, tt, g0, more⟩ := L.code p hp
      have d := more.2.1
      have sz := more.2.2.1
      refine ⟨o, us, file, tf, flags, tg, inF, text, tt, hidT_get g0 (other g0 (fun ws n z => ?_) fun z => ?_), more⟩
      · rw [d] at z
        cases z
      · rw [d] at z
        injection z with z
        rw [z] at sz
        simp at sz
    · obtain ⟨bm, ob, c1, c2, c3, c4, c5, c6⟩ := L.blt
      have n1 : bm ≠ mainGlobals := by
        rintro rfl
        obtain ⟨o, es, ep, e, d, _⟩ := hns
        rw [c3] at e
        rw [← Option.some.inj e, c6] at d
        cases d
      have n2 : bm ≠ p.2 := by
        rintro rfl
        rw [tp] at c3
        rw [← Option.some.inj c3] at c6
        cases c6
      refine ⟨bm, ob, c1, c2, n1, n2, hidT_get c3 (other c3 (fun ws n z => ?_) fun z => ?_), c4, c5, c6⟩
      · rw [c6] at z
        cases z
      · rw [c6] at z
        cases z
    · exact glob _ tp
  have en : Env0 P w K mg (hidT s1.heap H) callerA [] s1 H :=
    { frames := rfl, mod := mod, bs := fun b o q => of_hidT q, bsz := Nat.le_of_eq (hidT_size _ _), funs := trivial, frf := fun b q => absurd q List.not_mem_nil, hok := hok, bare := AllBare.of_eq hg }
  refine codeAny_mono ((F _ kin (ns hns) tb).run callerA [] s1 H { pos := [.ref a], kw := [] } [.ref a] [.ref a] _ _ hr rfl en (hbind s1 (.ref a)) (.cons rfl .nil) hsp) ?_
  intro r s' got
  match r, got with
  | .error e, got => exact (hCX e s' got).elim
  | .ok (.ret u), ⟨v, H1, os, bare, un, hok1, rel, isT⟩ =>
    subst isT
    have isT' : u = Value.bool true := rel
    subst isT'
    have kept : ∀ b o, b ∉ cs.map (·.2) → s1.heap.get? b = some o → s'.heap.get? b = some o := by
      intro b o nb eo
      match hH : H b with
      | none => exact un.keep b o eo hH (fun z => absurd z List.not_mem_nil) List.not_mem_nil
      | some u =>
        match only b with
        | .inl z => rw [z] at hH; cases hH
        | .inr (.inl z) => exact absurd z nb
        | .inr (.inr ⟨ob, xs, z⟩) =>
          have was := (hok b _ z).1
          have is := (hok1 b _ (un.frzs b ob _ z)).1
          rw [eo] at was
          rw [is, ← was]
    have grew : ∀ p ∈ cs, ∃ more : Array Value, s'.heap.get? p.2 = some { cls := .none, data := .fields more } := by
      intro p hp
      obtain ⟨more, z⟩ := un.tbls p.2 #[] (at_ p hp)
      exact Exists.intro _ (hok1 p.2 _ z)
    refine And.intro rfl (And.intro ⟨fun b o eo => ?_, fun b o eo => ?_⟩ (And.intro os bare))
    · by_cases inT : b ∈ cs.map (·.2)
      · obtain ⟨p, hp, e⟩ := List.mem_map.mp inT
        subst e
        obtain ⟨more, em⟩ := grew p hp
        rw [L.tab p hp] at eo
        have eo := Option.some.inj eo
        subst eo
        refine .inr (.inl ⟨((L.code p hp).tab (L.tab p hp)).isCodeTable, rfl, #[], more, rfl, ?_⟩)
        rw [Array.empty_append]
        exact em
      · exact .inl (kept b o inT eo)
    · by_cases inT : b ∈ cs.map (·.2)
      · obtain ⟨p, hp, e⟩ := List.mem_map.mp inT
        subst e
        obtain ⟨more, em⟩ := grew p hp
        exact Exists.intro _ em
      · exact Exists.intro o (kept b o inT eo)
theorem law_callT (L : Laid K mg s1.heap cs) (KX : K.In s1.heap) (hns : s1.heap.Ns mainGlobals mg) (hb : s1.heap.Ns builtinsNs mb) (hbb : ∀ x : Str, x ≠ "__name__" → mb x = bootBuiltins x) (hlim : s1.heap.NoLimit) (hg : s1.gens = #[])
    (ha : s1.heap.get? a = some { cls := .type "list", data := .seq vs.toArray }) (hi : IntsAre vs ns) (hl : ns.length ≤ sizeLine) (hr : Room k callerA)
    (F : ∀ base : Heap, K.In base → base.Ns mainGlobals mg → (∀ p ∈ cs, LamX.TabB base mg p.1 p.2) → FnG P w K mg base CX k fa fd [x] sp) (hbind : ∀ (s : Shared) (u : Value), BindsTo s fd ⟨[u], []⟩ [(x, u)])
    (hsp : ∀ H : Hp, (∀ p ∈ cs, H p.2 = some (.tbl #[])) → SqL K H a (ns.map V.int) → sp [.ref a] H (fun v _ => v = .bl true) fun _ _ _ => False) (hCX : ∀ H e s', CX [] H s1 (fun _ _ _ => False) e s' → False) :
    codeAny (model P w) callerA (.call (.ref fa) ⟨[.ref a], []⟩) (fun r s' => r = .ok (.ret (.bool true)) ∧ OldK s1.heap s'.heap ∧ s'.os = s1.os ∧ AllBare s'.gens) s1 := by
  classical
  have rel := vals_ints hi
  have size := hi.length
  have noA : a ∉ cs.map (·.2) := fun z => by
    have q := L.at z
    rw [ha] at q
    exact nomatch congrArg Obj.data (Option.some.inj q)
  have inT : ∀ p ∈ cs, p.2 ∈ cs.map (·.2) := fun p hp => List.mem_map.mpr ⟨p, hp, rfl⟩
  match hk : K.lookup a with
  | some o =>
    have same := KX a o hk
    rw [ha] at same
    have same := Option.some.inj same
    subst same
    let H : Hp := fun b => if b ∈ cs.map (·.2) then some (.tbl #[]) else none
    have yes : ∀ b, b ∈ cs.map (·.2) → H b = some (.tbl #[]) := fun b hb => if_pos hb
    have no : ∀ b, b ∉ cs.map (·.2) → H b = none := fun b hb => if_neg hb
    refine law_fromT (H := H) L KX hns hb hbb hlim hg ha hr F hbind (hsp _ (fun p hp => yes _ (inT p hp)) (.inr ?_)) (hCX _) (fun p hp => yes _ (inT p hp)) (fun b => ?_) (fun b u z => ?_) (fun b z => ?_) (fun z => absurd (no a noA) z)
    · refine ⟨_, vs.toArray, _, hk, rfl, rfl, rfl, ?_, by simpa using rel⟩
      rw [List.size_toArray, size]
      exact hl
    · by_cases q : b ∈ cs.map (·.2)
      · exact .inr (.inl q)
      · exact .inl (no b q)
    · by_cases q : b ∈ cs.map (·.2)
      · rw [yes b q] at z
        cases z
        exact L.at q
      · rw [no b q] at z
        cases z
    · by_cases q : b ∈ cs.map (·.2)
      · exact .inr q
      · exact absurd (no b q) z
  | none =>
    let H : Hp := fun b => if b = a then some (HO.frz { cls := .type "list", data := .seq vs.toArray } (.lst (ns.map V.int))) else if b ∈ cs.map (·.2) then some (.tbl #[]) else none
    have here : H a = some (HO.frz { cls := .type "list", data := .seq vs.toArray } (.lst (ns.map V.int))) := if_pos rfl
    have yes : ∀ b, b ∈ cs.map (·.2) → H b = some (.tbl #[]) := fun b hb => (if_neg (fun (z : b = a) => noA (z ▸ hb))).trans (if_pos hb)
    have no : ∀ b, b ≠ a → b ∉ cs.map (·.2) → H b = none := fun b h1 hb => (if_neg h1).trans (if_neg hb)
    refine law_fromT (H := H) L KX hns hb hbb hlim hg ha hr F hbind (hsp _ (fun p hp => yes _ (inT p hp)) (.inl (.inr ⟨_, here⟩))) (hCX _) (fun p hp => yes _ (inT p hp)) (fun b => ?_) (fun b u z => ?_) (fun b z => ?_) (fun _ => hk)
    · by_cases q1 : b = a
      · subst q1
        exact .inr (.inr ⟨_, _, here⟩)
      · by_cases q : b ∈ cs.map (·.2)
        · exact .inr (.inl q)
        · exact .inl (no b q1 q)
    · by_cases q1 : b = a
      · subst q1
        have z2 := here.symm.trans z
        cases z2
        exact And.intro ha (And.intro (by rw [List.length_map]; exact hl) ⟨vs, _, rel, ha⟩)
      · by_cases q : b ∈ cs.map (·.2)
        · rw [yes b q] at z
          cases z
          exact L.at q
        · rw [no b q1 q] at z
          cases z
    · by_cases q1 : b = a
      · exact .inl q1
      · by_cases q : b ∈ cs.map (·.2)
        · exact .inr q
        · exact absurd (no b q1 q) z
end
/-- the names of the defs that make lambdas, their code objects and tables -/
def TabsIn (q : Program) (K : PySem.W.Frag) (xs : List (Str × Addr × Addr)) : Prop := ∀ y ∈ xs, (∃ d, (recsOf q).find? (fun e => e.name == y.1) = some d) ∧ PySem.W.tabIn K y.1 = some y.2 ∧ K.lookup y.2.2 = none
/-- what k_head leaves, from the law's promise -/
theorem walk_ofGT {l : PySem.W.OpenLaw} {n k : Nat} {q : Program} {loose : List Str} {XP : (Str → Option Value) → Heap → Prop} {YP : World → Heap → Prop} {d : DefRec} {K : Params → PySem.W.Frag} {CX : World → CXT} {sp : World → Sp} {x : Str} (xs : List (Str × Addr × Addr))
    (hn : l.most = some n) (hn2 : n ≤ sizeLine) (hdf : d.params.defaults = []) (hr : Room k callerA) (hY : ∀ (w : World) (h : Heap), YP w h → (K w.params).In h) (hx : ∀ w : World, TabsIn q (K w.params) xs)
    (F : ∀ (w : World) (mg : Str → Option Value) (fa : Addr) (h : Heap), (K w.params).In h → h.Ns mainGlobals mg → mg d.name = some (.ref fa) →
      ∃ fd : FuncData, (∀ (s : Shared) (u : Value), BindsTo s fd ⟨[u], []⟩ [(x, u)]) ∧ ∀ base : Heap, (K w.params).In base → base.Ns mainGlobals mg → (∀ p ∈ xs.map (·.2), LamX.TabB base mg p.1 p.2) → FnG l.prog w (K w.params) mg base (CX w) k fa fd [x] (sp w))
    (hsp : ∀ (w : World) (H : Hp) (a : Addr) (ns : List Int), ns.length ≤ n → (∀ p ∈ xs.map (·.2), H p.2 = some (.tbl #[])) → SqL (K w.params) H a (ns.map V.int) → sp w [.ref a] H (fun v _ => v = .bl true) fun _ _ _ => False)
    (hCX : ∀ (w : World) (H : Hp) (s : Shared) (e : Value) (s' : Shared), CX w [] H s (fun _ _ _ => False) e s' → False) : PySem.W.WalkO q loose XP YP l.row.toRowW d [] (fun f vs => PySem.call f vs) := by
  refine Att.attach_call hn hdf ?_
  intro w s0 s1 mg mb fa o pm cd doc a vs ns G Y ho hd hcd hmg hobj hints hlen hg
  have kin := hY w _ Y
  obtain ⟨fd, bnd, F1⟩ := F w mg fa _ kin G.T.g hmg
  have L : Laid (K w.params) mg s1.heap (xs.map (·.2)) := by
    have all : ∀ p ∈ xs.map (·.2), PySem.W.CodeHd s1.heap p.1 p.2 ∧ s1.heap.get? p.2 = some { cls := .none, data := .fields #[] } ∧ (K w.params).lookup p.2 = none := by
      intro p hp
      obtain ⟨y, hy, rfl⟩ := List.mem_map.mp hp
      obtain ⟨⟨d', hd'⟩, e1, e2⟩ := hx w y hy
      obtain ⟨z1, z2⟩ := PySem.W.tab_of (x := y.1) (c := y.2.1) (P := y.2.2) G.T kin hd' e1
      exact ⟨z1, z2, e2⟩
    exact ⟨fun p hp => (all p hp).2.1, fun p hp => (all p hp).2.2, fun p hp => (all p hp).1, G.T.bmain⟩
  exact law_callT L kin G.T.g G.T.b G.T.builtins G.T.nolimit hg hobj hints (Nat.le_trans hlen hn2) hr F1 bnd (fun H at_ sq => hsp w H a ns hlen at_ sq) (fun H e s' => hCX w H s1 e s')
end HW
/-! Own layer, part Td: k in d, d[k] of dicts by tuples; None; globals that are data; factorial; == of data as a value. -/
namespace HW
open PySem PySem.Spec PyProof.Rows L2 RZ
section
variable {X : Cx} {pins : List (Addr × Obj)} {σ : L2.St} {H : Hp} {s : Shared} {o i e f : Expr} {pos pos' apos : Pos} {td ty tv tx : TE}
def rNotInF (K : PySem.W.Frag) : R2 := fun x y H Q => ∃ G kvs k q, Same G H ∧ y = .ref q ∧ MRep K G H q (.fd kvs) ∧ Dp K G x (fkD k) ∧ Q (.bl (valF kvs k).isNone) H
theorem op_notInF (hu : X.A.units + 64 < cLine) : OpR X (compareOp .NotIn) (rNotInF X.K) := by
  intro pins s σ H x y v u Q I rx ry h
  obtain ⟨G, kvs, k, q, gh, ey, mr, dk, fin⟩ := h
  subst ey
  obtain rfl : u = Value.ref q := ry
  obtain ⟨xs, e1, e2, e3, e4, e5⟩ := mr
  obtain ⟨ys, pr, dd⟩ := fd_dict I e1 fun x hx => dp_same gh _ _ (e5 x hx)
  obtain ⟨b, eb, nk⟩ := fis_key I (dp_same gh _ _ dk)
  subst eb
  obtain rfl : v = Value.ref b := rx
  show wpAny _ _ (do return Value.bool (!(← contains (.ref q) (.ref b)))) _ _ s
  refine wpAny_bind (wpAny_contains_heap (knd := nestedKind X.prog X.w) (k := fkey k) (show X.A.in1.units + 8 < cLine from by show X.A.units + 1 + 8 < cLine; omega) ⟨nk, fkey_depth k⟩ e2 dd (wpAny_pure ?_))
  rcases valF_get (k := k) pr e3 e4 with ⟨h1, h2⟩ | ⟨p, v, a, h1, h2, h3, h4⟩
  · rw [h1]
    rw [h2] at fin
    exact ⟨.bl true, H, I.tok _, rfl, fin⟩
  · rw [h1]
    rw [h2] at fin
    exact ⟨.bl false, H, I.tok _, rfl, fin⟩
/-- d[k], there -/
def tFItem (K : PySem.W.Frag) (td ty : TE) : TE := fun σ H Q => td σ H fun x H1 => ty σ H1 fun y H2 => ∃ G q kvs k a, Same G H2 ∧ x = .ref q ∧ MRep K G H2 q (.fd kvs) ∧ Dp K G y (fkD k) ∧ valF kvs k = some a ∧ (∀ v, Rep K G v a → Q v H2)
theorem pe_fitem (hu : X.A.units + 64 < cLine) (ho : PE X o td) (hi : PE X i ty) (hs : NoSl i) : PE X (.Subscript o i pos) (tFItem X.K td ty) := by
  refine ⟨fun pins s σ H Q I h => ?_⟩
  refine subD_of PySem.F.slot_dict_getitem.lookup hs (thn (ho.run pins s σ H _ I h) fun u s1 ⟨x, H1, I1, rx, q1⟩ => thn (hi.run pins s1 σ H1 _ I1 q1) fun iv s2 ⟨y, H2, I2, ry, G, q, kvs, k, a, gh, ex, m, dk, hv, q2⟩ => ?_)
  subst ex
  obtain rfl : u = Value.ref q := rx
  obtain ⟨xs, e1, e2, e3, e4, e5⟩ := m
  obtain ⟨ys, pr, dd⟩ := fd_dict I2 e1 fun x hx => dp_same gh _ _ (e5 x hx)
  obtain ⟨b, rfl, nk⟩ := fis_key I2 (dp_same gh _ _ dk)
  obtain rfl : iv = Value.ref b := ry
  rcases valF_get (k := k) pr e3 e4 with ⟨h1, h2⟩ | ⟨p, v, a', h1, h2, h3, h4⟩
  · rw [hv] at h2
    cases h2
  · rw [hv] at h2
    cases h2
    exact ⟨dd.typeIs, wpAny_getItem_heap (knd := nestedKind X.prog X.w) (show X.A.in1.units + 8 < cLine from by show X.A.units + 1 + 8 < cLine; omega) ⟨nk, fkey_depth k⟩ dd h1 ⟨v, H2, I2.tok _, h3, q2 v h4⟩⟩
end
section
variable {X : Cx} {rs : Rs} {M : Mem} {ρ : List (Option Ab)} {o i e f a b : Expr} {es : List Expr} {x : Str} {pos apos p pos' : Pos} {y : Ab} {q : Addr} {kvs : List (FK × Ab)} {ky : FK} {R : Ab → Prop} {bb : Bool}
theorem dt_notInF (hu : X.A.units + 64 < cLine) (hi : DE X rs M ρ i (Is (.d (fkD ky)))) (ho : DE X rs M ρ o (Is (.at q))) (hM : (⟨q, bb, .fd kvs⟩ : Me) ∈ M) (hmk : behindInMarks .NotIn o = false := by rfl) : DT X rs M ρ (.Compare i [.NotIn] [o] pos) (fun c => c = (valF kvs ky).isNone) :=
  dt_cmp (op_notInF hu) hi ho (fun _ _ e1 e2 => fun G H v u Q ok r1 r2 k => by
    subst e1 e2
    have r2 : u = .ref q := r2
    exact ⟨G, kvs, ky, q, ok.gh, r2, (ok.m _ hM).2.2, r1, k _ _ G H ⟨_, rfl, rfl⟩ (Dp.bl _) (Nxt.rfl ok)⟩) hmk
theorem de_fitem (hu : X.A.units + 64 < cLine) (ho : DE X rs M ρ o (Is (.at q))) (hM : (⟨q, bb, .fd kvs⟩ : Me) ∈ M) (hi : DE X rs M ρ i (Is (.d (fkD ky)))) (hv : valF kvs ky = some y) (hs : NoSl i := by intro _ _; rfl) : DE X rs M ρ (.Subscript o i pos) (Is y) :=
  pe_weak (pe_fitem hu ho hi hs) fun σ H Q ⟨G, l, ok, kk⟩ => tD_go l ok fun v z G1 H1 rz rep1 l1 ok1 n1 => ⟨G1, l1, ok1, fun u w G2 H2 rw2 rep2 n2 => by
    subst rz rw2
    have rep1 : v = .ref q := rep1
    have ok2 := ok1.nxt n2
    exact ⟨G2, q, kvs, ky, y, ok2.gh, rep1, (ok2.m _ hM).2.2, rep2, hv, fun v rv => kk v y G2 H2 rfl rv (n1.trans n2 ok)⟩⟩
/-! ### None -/
theorem dp_some {K : PySem.W.Frag} {G : Hp} {v : V} {ds : List PyData} (h : Dp K G v (.tuple ds)) : v ≠ .non := by
  cases h
  exact fun z => nomatch z
/-- a is None -/
theorem dt_isN {q : Nat} (ha : DE X rs M ρ a R) (hR : ∀ y, R y → y = aN ∨ ∃ ds, y = aT ds) : DT X rs M ρ (.Compare a [.Is] [.Constant .none q p] pos) (fun c => ∃ y, R y ∧ (c = true → y = aN) ∧ (c = false → ∃ ds, y = aT ds)) :=
  dt_cmp op_isN ha de_non (fun y z ry e2 => fun G H v u Q ok r1 r2 k => by
    subst e2
    refine ⟨rep_non r2, ?_⟩
    rcases hR y ry with rfl | ⟨ds, rfl⟩
    · rw [rep_non r1]
      exact k _ _ G H ⟨true, rfl, _, ry, fun _ => rfl, fun z => nomatch z⟩ (Dp.bl _) (Nxt.rfl ok)
    · rw [decide_eq_false (dp_some r1)]
      exact k _ _ G H ⟨false, rfl, _, ry, (fun z => nomatch z), fun _ => ⟨ds, rfl⟩⟩ (Dp.bl _) (Nxt.rfl ok)) (nomark _)
theorem dt_notN {q : Nat} (ha : DE X rs M ρ a R) (hR : ∀ y, R y → y = aN ∨ ∃ ds, y = aT ds) : DT X rs M ρ (.Compare a [.IsNot] [.Constant .none q p] pos) (fun c => ∃ y, R y ∧ (c = false → y = aN) ∧ (c = true → ∃ ds, y = aT ds)) :=
  dt_cmp op_notN ha de_non (fun y z ry e2 => fun G H v u Q ok r1 r2 k => by
    subst e2
    refine ⟨rep_non r2, ?_⟩
    rcases hR y ry with rfl | ⟨ds, rfl⟩
    · rw [rep_non r1]
      exact k _ _ G H ⟨false, rfl, _, ry, fun _ => rfl, fun z => nomatch z⟩ (Dp.bl _) (Nxt.rfl ok)
    · rw [decide_eq_false (dp_some r1)]
      exact k _ _ G H ⟨true, rfl, _, ry, (fun z => nomatch z), fun _ => ⟨ds, rfl⟩⟩ (Dp.bl _) (Nxt.rfl ok)) (nomark _)
/-! ### globals that are data -/
structure GlD (K : PySem.W.Frag) (mg : Str → Option Value) (x : Str) (d : PyData) : Prop where
  ex : ∃ a, mg x = some (.ref a) ∧ ∀ G, Dp K G (.ref a) d
theorem de_glob {d : PyData} (hg : Gl X x) (D : GlD X.K X.mg x d) (hd : (x == ("__debug__" : Str)) = false := by decide) : DE X rs M ρ (.Name x pos) (Is (.d d)) := by
  obtain ⟨a, h1, h2⟩ := D.ex
  exact pe_weak (pe_glob (v := .ref a) hg h1 rfl hd) fun σ H Q ⟨G, l, ok, k⟩ => k _ _ G H rfl (h2 G) (Nxt.rfl ok)
/-! ### factorial -/
def facI (n : Nat) : Int := ((Builtin.Math.factorialNat n : Nat) : Int)
theorem cr_fact : CallR X (.builtin "math.factorial") (fun vs H Q => ∃ i : Nat, vs = [.int i] ∧ i ≤ 20000 ∧ Q (.int (facI i)) H) := by
  intro pins s σ H vs us Q I r h
  obtain ⟨i, rfl, hi, q⟩ := h
  obtain ⟨u, rfl, ru⟩ := vals1 r
  obtain ⟨t, rfl⟩ := ru
  exact PySem.W.mc_factorial (Int.natCast_nonneg i) (by omega) fun _ => ⟨.int _, H, I.tok _, ⟨_, rfl⟩, q⟩
theorem de_fact {i : Nat} (hm : X.mg "factorial" = some (.builtin "math.factorial")) (ha : DE X rs M ρ e (Is (aI i))) (hi : i ≤ 20000) (hg : Gl X "factorial" := by rfl) (he : starEach [e] X.env = (false, eval e X.env) :: starEach [] X.env := by rfl) (hpl : (backTo pos (starEach [] X.env)).any (·.1) = false := by rfl) :
    DE X rs M ρ (.Call (.Name "factorial" p) [e] [] pos) (Is (aI (facI i))) :=
  pe_weak (pe_callBfun cr_fact hg hm (da_cons ha da_nil he) (he := he) (hpl := hpl)) fun σ H Q ⟨G, l, ok, k⟩ => ⟨G, l, ok, fun vs as G1 H1 ra rep n => by
    subst ra
    obtain ⟨v, rfl, r⟩ := repAll_one rep
    rw [rep_int r]
    exact ⟨i, rfl, hi, k _ _ G1 H1 rfl (Dp.int _) n⟩⟩
/-! ### == as a value -/
theorem de_eqD {x y : Ab} {d e' : PyData} (hu : X.A.units + 64 < cLine) (ha : DE X rs M ρ a (Is x)) (hb : DE X rs M ρ b (Is y)) (hx : View X.K rs M x d) (hy : View X.K rs M y e') (sd : SeqAt.shaped d = true) (se : SeqAt.shaped e' = true) : DE X rs M ρ (.Compare a [.Eq] [b] pos) (Is (aB (PyData.eqv d e'))) :=
  de_cmp (op_eqD hu) ha hb (fun _ _ e1 e2 => by subst e1 e2; exact ar_eqD hx hy sd se rfl) (nomark _)
end
end HW
/-! Own layer, part Te: comprehensions of two clauses. -/
namespace HW
open PySem PySem.Spec PyProof.Rows L2 RZ
theorem wipe_idem {σ : L2.St} : ∀ (vs us : List Nat), (∀ v ∈ vs, v ∈ us) → L2.wipe (L2.wipe σ vs) us = L2.wipe σ us
  | [], _, _ => rfl
  | v :: vs, us, hu => by
    show L2.wipe ((L2.wipe σ vs).set v none) us = _
    rw [wipe_set (hu v List.mem_cons_self)]
    exact wipe_idem vs us fun x hx => hu x (List.mem_cons_of_mem _ hx)
section
variable {X : Cx} {rs : Rs} {M : Mem} {ρ : List (Option Ab)} {tg iter tg1 iter1 elt : Expr} {scope : Scope} {own : List (Str × Nat)} {pos : Pos} {is is1 vs1 : List Nat} {T T1 : Ab → List (Option Ab) → List (Option Ab) → Prop} {RI : Nat → (Nat → Ab → Prop) → Prop} {U : List Ab → Prop}
abbrev TtYes : TT := fun _ H Q => Q true H
theorem lc2_read (Acc : Nat → (Nat → Ab → Prop) → Nat → List Ab → Prop) (h0 : ∀ n item, RI n item → Acc n item 0 [])
    (hs : ∀ n item i acc a, RI n item → i < n → Acc n item i acc → item i a → ∃ ρ' RI1, T a (wipeA ρ (own.map (·.2))) ρ' ∧ AllBlk X scope (fun Y => DI Y rs M ρ' tg1 iter1 RI1) ∧
      ∀ n1 item1, RI1 n1 item1 → ∃ Acc1 : Nat → List Ab → Prop, Acc1 0 acc ∧ (∀ j acc' b, j < n1 → Acc1 j acc' → item1 j b → acc'.length ≤ 100000 ∧ ∃ ρ'', T1 b (wipeA ρ' vs1) ρ'' ∧ AllBlk X scope (fun Y => DE Y rs M ρ'' elt (fun z => Acc1 (j + 1) (acc' ++ [z])))) ∧
        ∀ acc', Acc1 n1 acc' → Acc n item (i + 1) acc')
    (hd : ∀ n item acc, RI n item → Acc n item n acc → U acc) (his : ∀ i ∈ is, i ∈ own.map (·.2)) (his1 : ∀ i ∈ is1, i ∈ vs1) {σ : L2.St} {H : Hp} {Q : VK}
    (h : tDN X.K rs M ρ U σ H Q) :
    tLc2 (tDI X.K rs M ρ RI) (tT X.K is T) TtYes (fun σ H R => ∃ ρ' RI1, AllBlk X scope (fun Y => DI Y rs M ρ' tg1 iter1 RI1) ∧ tDI X.K rs M ρ' RI1 σ H R) (tT X.K is1 T1) TtYes (fun σ H Q => ∃ ρ' R, AllBlk X scope (fun Y => DE Y rs M ρ' elt R) ∧ tD X.K rs M ρ' R σ H Q) (own.map (·.2)) vs1 σ H Q := by
  obtain ⟨G, l, ok, k⟩ := h
  refine ⟨G, l, ok, fun J n item G1 H1 ri it n1 p hp => ?_⟩
  have ok1 := ok.nxt n1
  have hp0 := fresh_of ok n1 hp
  have nF : ∀ {H}, rs.I H → H p = none → ¬ rs.F p := fun {H'} i e f => by
    obtain ⟨o, z⟩ := rs.has _ _ i f
    rw [e] at z
    cases z
  have nFp : ¬ rs.F p := nF ok1.i hp
  refine ⟨fun i m H => m = n - i ∧ i ≤ n ∧ ∃ acc vs G2, Acc n item i acc ∧ RepAll X.K G2 vs acc ∧ H p = some (.lst vs) ∧ G2 p = none ∧ Nxt rs G1 H1 G2 H, ⟨n, rfl, Nat.zero_le _, [], [], G1, h0 n item ri, trivial, upd_same, ok1.gnone hp, Nxt.newM ok1 hp⟩, fun i m H2 ⟨em, hi, acc, vs, G2, ha, reps, e2, g2, n2⟩ => ?_⟩
  have ok2 := ok1.nxt n2
  obtain ⟨go, stop⟩ := it rs M G2 H2 n2.g ok2
  by_cases hlt : i < n
  · obtain ⟨g, yl⟩ := go i hlt
    refine .inr ⟨g, fun H => ∃ acc vs G2, Acc n item (i + 1) acc ∧ RepAll X.K G2 vs acc ∧ H p = some (.lst vs) ∧ G2 p = none ∧ Nxt rs G1 H1 G2 H, fun H' q => ⟨n - (i + 1), by omega, rfl, hlt, q⟩, fun x H3 y => ?_⟩
    obtain ⟨a, G3, ia, rep, n3⟩ := yl x H3 y
    obtain ⟨ρ', RI1, ht, hB, hI⟩ := hs n item i acc a ri hlt ha ia
    have ok3 := ok2.nxt n3
    refine ⟨G3, a, _, ρ', (l.wipe _).same (n1.g.trans (n2.g.trans n3.g)), rep, ok3.gh, ht, fun σ' l' w => ⟨by rw [w _ his]; exact wipe_idem _ _ fun _ h => h, ?_⟩⟩
    refine iteT ⟨ρ', RI1, hB, G3, l', ok3, fun J1 m1 item1 G4 H4 ri1 it1 n4 => ?_⟩
    obtain ⟨Acc1, a0, astep, aend⟩ := hI m1 item1 ri1
    have ok4 := ok3.nxt n4
    have gp : ∀ {Ga Ha Gb Hb}, Nxt rs Ga Ha Gb Hb → Ga p = none → Ha p ≠ none → Gb p = none := fun {Ga Ha Gb Hb} nn ga ha' => by
      cases q : Gb p with
      | none => rfl
      | some o =>
        rcases nn.nw p o q with z | z
        · rw [ga] at z
          cases z
        · exact absurd z ha'
    have n34 := n3.trans n4 ok2
    have e4 : H4 p = some (.lst vs) := n34.h _ _ e2 nFp
    have g4 : G4 p = none := gp n34 g2 (by rw [e2]; exact fun z => nomatch z)
    refine ⟨fun j kk H => kk = m1 - j ∧ j ≤ m1 ∧ ∃ acc vs G5, Acc1 j acc ∧ RepAll X.K G5 vs acc ∧ H p = some (.lst vs) ∧ G5 p = none ∧ Nxt rs G1 H1 G5 H ∧ Same G4 G5, ⟨m1, rfl, Nat.zero_le _, acc, vs, G4, a0, reps.same n34.g, e4, g4, n2.trans n34 ok1, Same.refl _⟩, fun j kk H5 ⟨ek, hj, acc5, vs5, G5, ha5, reps5, e5, g5, n5, s45⟩ => ?_⟩
    have ok5 := ok1.nxt n5
    obtain ⟨go1, stop1⟩ := it1 rs M G5 H5 s45 ok5
    by_cases hlt1 : j < m1
    · obtain ⟨gj, yl1⟩ := go1 j hlt1
      refine .inr ⟨gj, fun H => ∃ acc vs G5, Acc1 (j + 1) acc ∧ RepAll X.K G5 vs acc ∧ H p = some (.lst vs) ∧ G5 p = none ∧ Nxt rs G1 H1 G5 H ∧ Same G4 G5, fun H' q => ⟨m1 - (j + 1), by omega, rfl, hlt1, q⟩, fun x1 H6 y1 => ?_⟩
      obtain ⟨b, G6, ib, rep6, n6⟩ := yl1 x1 H6 y1
      obtain ⟨hl5, ρ'', ht1, hE⟩ := astep j acc5 b hlt1 ha5 ib
      have ok6 := ok5.nxt n6
      refine ⟨G6, b, _, ρ'', (l'.wipe _).same (n4.g.trans (s45.trans n6.g)), rep6, ok6.gh, ht1, fun σ'' l'' w1 => ⟨by rw [w1 _ his1]; exact wipe_idem _ _ fun _ h => h, ?_⟩⟩
      refine iteT ⟨ρ'', _, hE, G6, l'', ok6, fun v z G7 H7 hz rep7 n7 => ?_⟩
      have n67 := n6.trans n7 ok5
      have e7 : H7 p = some (.lst vs5) := n67.h _ _ e5 nFp
      have g7 : G7 p = none := gp n67 g5 (by rw [e5]; exact fun z => nomatch z)
      have n17 := n5.trans n67 ok1
      refine ⟨vs5, e7, by rw [reps5.length]; exact lt_line hl5, acc5 ++ [z], vs5 ++ [v], G7, hz, (reps5.same n67.g).append ⟨rep7, trivial⟩, upd_same, g7, ⟨n17.g, fun b o e => ?_, fun b o e f => ?_, n17.nw, rs.st _ _ n17.i fun b o f e => ?_⟩, s45.trans n67.g⟩
      · rw [upd_ne fun z => by rw [z, g7] at e; cases e]
        exact n17.gh _ _ e
      · rw [upd_ne (ne_of_none e hp)]
        exact n17.h _ _ e f
      · rw [upd_ne (show b ≠ p from fun z => f.elim (fun f => nFp (show rs.F p from z ▸ f)) fun c => by
            subst z
            rw [e7] at e
            cases Option.some.inj e
            obtain ⟨q, z⟩ := c
            exact nomatch z)]
        exact e
    · have e1 : j = m1 := by omega
      subst e1
      exact .inl ⟨stop1, acc5, vs5, G5, aend acc5 ha5, reps5, e5, g5, n5⟩
  · have e1 : i = n := by omega
    subst e1
    exact .inl ⟨stop, k p vs acc G2 H2 (hd _ item acc ri ha) reps e2 g2 hp0 (n1.trans n2 ok)⟩
end
section
variable {X : Cx} {Ff : Addr → Prop} {S : Sta} {D : AE} {tg iter tg1 iter1 elt : Expr} {scope : Scope} {own : List (Str × Nat)} {pos spos py : Pos} {is is1 vs1 : List Nat} {T T1 : Ab → List (Option Ab) → List (Option Ab) → Prop} {RI : Nat → (Nat → Ab → Prop) → Prop} {y : Str}
/-- y = [.. for .. for ..], frozen at once -/
theorem ds_setLc2 {R : Ab → Prop} (j : Nat) (Acc : Nat → (Nat → Ab → Prop) → Nat → List Ab → Prop) (hi : DI X S.rs S.M S.ρ tg iter RI) (hc : X.calm = true) (hN : X.N.Nodup) (ok : BlkOk X.N X.env.scope scope own) (hg : AllBlk X scope (fun Y => DG Y tg is T)) (hg1 : AllBlk X scope (fun Y => DG Y tg1 is1 T1)) (h0 : ∀ n item, RI n item → Acc n item 0 [])
    (hs : ∀ n item i acc a, RI n item → i < n → Acc n item i acc → item i a → ∃ ρ' RI1, T a (wipeA S.ρ (own.map (·.2))) ρ' ∧ AllBlk X scope (fun Y => DI Y S.rs S.M ρ' tg1 iter1 RI1) ∧
      ∀ n1 item1, RI1 n1 item1 → ∃ Acc1 : Nat → List Ab → Prop, Acc1 0 acc ∧ (∀ j acc' b, j < n1 → Acc1 j acc' → item1 j b → acc'.length ≤ 100000 ∧ ∃ ρ'', T1 b (wipeA ρ' vs1) ρ'' ∧ AllBlk X scope (fun Y => DE Y S.rs S.M ρ'' elt (fun z => Acc1 (j + 1) (acc' ++ [z])))) ∧
        ∀ acc', Acc1 n1 acc' → Acc n item (i + 1) acc')
    (hd : ∀ n item acc, RI n item → Acc n item n acc → ∃ ds, acc = ds.map .d ∧ R (aL ds)) (his : ∀ i ∈ is, i ∈ own.map (·.2)) (his1 : ∀ i ∈ is1, i ∈ vs1) (hv : ∀ i ∈ vs1, i ∈ own.map (·.2))
    (k : ∀ a, R a → D.nx ⟨S.rs, S.M, S.ρ.set j (some a)⟩)
    (hy : X.N[j]? = some y := by rfl) (hyl : X.env.scope.names.lookup y = some .local := by rfl) (hsw : swapsWith (.ListComp elt [⟨tg, iter, [], 0⟩, ⟨tg1, iter1, [], 0⟩] scope pos) (some (.Name y py)) spos.line X.env = pure true := by exact sw_true rfl rfl rfl (by decide +kernel))
    (hf : ∀ x, foldedSetIterable iter X.env x = pure x := by intro _; rfl) (hf1 : ∀ env x, foldedSetIterable iter1 env x = pure x := by intro _ _; rfl) : DS X Ff S (.Assign [.Name y py] (.ListComp elt [⟨tg, iter, [], 0⟩, ⟨tg1, iter1, [], 0⟩] scope pos) spos) D := fun G0 H0 =>
  ps_weak (ps_setLc2 hc hN hy hyl hsw hi ok hv (fun s H C cl fp => hg s H C cl fp) (tt := TtYes) (tt1 := TtYes)
    (wi1 := fun σ H R => ∃ ρ' RI1, AllBlk X scope (fun Y => DI Y S.rs S.M ρ' tg1 iter1 RI1) ∧ tDI X.K S.rs S.M ρ' RI1 σ H R)
    (te := fun σ H Q => ∃ ρ' R, AllBlk X scope (fun Y => DE Y S.rs S.M ρ' elt R) ∧ tD X.K S.rs S.M ρ' R σ H Q) (fun s H C cl fp => pts_nil)
    (fun s H C cl fp => ⟨fun pins s1 σ H1 R I ⟨ρ', RI1, hR, q⟩ => (hR s H C cl fp).run pins s1 σ H1 R I q⟩) (fun s H C cl fp => hg1 s H C cl fp) (fun s H C cl fp => pts_nil)
    (fun s H C cl fp => ⟨fun pins s1 σ H1 Q I ⟨ρ', R, hR, q⟩ => (hR s H C cl fp).run pins s1 σ H1 Q I q⟩) hf hf1) fun De σ H ⟨G, s, n, _⟩ => lc2_read (U := fun acc => ∃ ds, acc = ds.map .d ∧ R (aL ds)) Acc h0 hs hd his his1 ⟨G, s.loc, s.ok, fun q vs as G' H' ⟨ds, e, r⟩ rep e1 g1 h0 nn => by
      subst e
      have n2 := nn.frz e1 h0 g1
      refine n _ _ _ H' (k _ r) ((s.nxt n2).set (a := aL ds) (Dp.lst upd_same (dpAll_same (fun b u e => ?_) _ _ (repAll_dp.mp rep))))
      rw [upd_ne (ne_of_none e g1)]
      exact e⟩
end
end HW
/-! Own layer, part Tf: defs whose code object is known; rows sorted by their threads; columns that go alike. -/
namespace HW
open PySem PySem.Spec PyProof.Rows L2 RZ
structure FunC (K : PySem.W.Frag) (x qual : Str) (st : Stmt) (f : Addr) (fd : FuncData) (c : Addr) : Prop where
  ex : ∃ (oc : Value) (od : Option Addr) (kV doc pm : Value) (an : Option Addr) (ct : Value) (osl : Array (Option Value)),
    fd = PySem.W.fnOf x qual (defArgs st) (defBody st) (defScope st) .none kV doc pm an (.ref c) ct ∧ K.lookup f = some ⟨oc, od, .func fd, osl⟩ ∧ PySem.W.codeIn K (.ref c) qual = true
section
variable {P : Program} {w : World} {K : PySem.W.Frag} {mg : Str → Option Value} {base : Heap} {k : Nat} {f c : Addr} {fd : FuncData} {ps N : List Str} {x qual : Str} {st : Stmt} {T : Rs → Mem → List Ab → (Ab → Prop) → Prop}
theorem fn_goC (F : FunC K x qual st f fd c) (Sc : FnScope N ps (defScope st)) (len : ∀ rs M as R, T rs M as R → as.length = ps.length)
    (body : ∀ (A : Around) (outer : List Env) (s : Shared) (H0 : Hp) (E : XK), Room k (A.deeper (envOfC qual (defScope st) s.heap.objs.size f (.ref c))) → A.guards = some [] → ∀ rs M as R, T rs M as R → (∀ e ∈ M, e.mu = false) →
      DSs (bodyCx P w K mg base N qual st f (.ref c) A outer s H0 E) rs.F ⟨rs, M, startA N as⟩ (defBody st) ⟨fun S => S.rs = rs ∧ R aN, fun rs2 _ a => rs2 = rs ∧ R a, fun _ => False, fun _ => False⟩) : FnG P w K mg base CX0 (k + 1) f fd ps (Spec K T) := by
  obtain ⟨oc, od, kV, doc, pm, an, ct, osl, same, lk, cd⟩ := F.ex
  subst same
  refine fnG_of lk cd Sc (fun vs H Q E ⟨rs, M, as, R, G, t, _, r, _⟩ => by rw [r.length]; exact len rs M as R t) fun A outer s H vs Q E room gd ⟨rs, M, as, R, G, t, ro, reps, ok, kk⟩ => ?_
  have run := body A outer s H E room gd rs M as R t ro
  refine ⟨_, (run G ⟨H, rfl⟩).nox, G, ⟨Loc.starts reps, ok, Lie.refl _ _ _, fun e he hm => absurd hm (by rw [ro e he]; decide), fun b f => .inr f⟩, fun S' σ' G' H' ⟨q, qi⟩ s' => ?_, fun rs2 M2 v a G' H' ⟨q, qi⟩ rep ok2 l2 _ => ?_, fun _ _ _ _ q => q.elim, fun _ _ _ _ q => q.elim⟩
  · exact kk .non aN G' H' qi Dp.non ⟨s'.lie.g, s'.ok.gh, s'.lie.h, s'.lie.nw, by have := s'.ok.i; rw [q] at this; exact this⟩
  · exact kk v a G' H' qi rep ⟨l2.g, ok2.gh, l2.h, l2.nw, by have := ok2.i; rw [q] at this; exact this⟩
end
/-! ### threads -/
def pfx : List Int → List Int → Nat
  | x :: xs, y :: ys => if x = y then pfx xs ys + 1 else 0
  | _, _ => 0
structure RowT where
  a : List Int
  b : List Int
  l : List PyData
def rowD (r : RowT) : PyData := .tuple [.tuple (r.a.map .int), .tuple (r.b.map .int), .tuple r.l]
def rowLe (r s : RowT) : Bool := decide (r.a ≤ s.a)
def sortR (rows : List RowT) : List RowT := rows.mergeSort rowLe
theorem rowK_of {r : RowT} (h : r.a ≠ []) : RowK (rowD r) := by
  obtain ⟨a, b, l⟩ := r
  cases a with
  | nil => exact absurd rfl h
  | cons n ns => exact ⟨n, ns, _, rfl⟩
theorem sortD_rows (rows : List RowT) : sortD (rows.map rowD) = (sortR rows).map rowD := by
  unfold sortD sortR
  refine (PySem.W.sort_maps rowD fun r _ s _ => ?_).symm
  show decide (r.a ≤ s.a) = !PySem.W.dataLt (.tuple (s.a.map .int)) (.tuple (r.a.map .int))
  rw [PySem.W.dataLt_tuple]
  show _ = !PySem.W.rowLt _ _
  rw [PySem.W.dataLt_ints]
  by_cases h : s.a < r.a
  · have h' : ¬ r.a ≤ s.a := fun z => List.not_lt.mpr z h
    simp [h, h']
  · have h' : r.a ≤ s.a := List.not_lt.mp h
    simp [h, h']
theorem rowLe_total : PySem.W.TotalLe rowLe where
  trans := fun a b c h1 h2 => by
    unfold rowLe at *
    rw [decide_eq_true_eq] at *
    exact List.le_trans h1 h2
  total := fun a b => by
    unfold rowLe
    rw [decide_eq_true_eq, decide_eq_true_eq]
    exact List.le_total _ _
theorem sortR_perm (rows : List RowT) : (sortR rows).Perm rows := List.mergeSort_perm _ _
theorem sortR_le {rows : List RowT} {i j : Nat} {r s : RowT} (hi : (sortR rows)[i]? = some r) (hj : (sortR rows)[j]? = some s) (h : i ≤ j) : r.a ≤ s.a := by
  rcases Nat.lt_or_eq_of_le h with h | rfl
  · have pw := PySem.W.sort_pairwise rowLe_total rows
    rw [List.pairwise_iff_getElem] at pw
    obtain ⟨h1, e1⟩ := List.getElem?_eq_some_iff.mp hi
    obtain ⟨h2, e2⟩ := List.getElem?_eq_some_iff.mp hj
    have := pw i j h1 h2 h
    unfold rowLe at this
    rw [decide_eq_true_eq] at this
    rw [← e1, ← e2]
    exact this
  · rw [hi] at hj
    cases Option.some.inj hj
    exact List.le_refl _
/-- rows next to one another whose first threads go together further than the second ones -/
def PartAt (rows : List RowT) (i : Nat) : Prop := ∃ r s, (sortR rows)[i]? = some r ∧ (sortR rows)[i + 1]? = some s ∧ pfx r.b s.b < pfx r.a s.a
theorem part_none {rows : List RowT} (h : ∀ i, ¬ PartAt rows i) (one : ∀ r ∈ rows, r.a.length = 1 ∧ r.b.length = 1) {r s : RowT} (hr : r ∈ rows) (hs : s ∈ rows) (e : r.a = s.a) : r.b = s.b := by
  have key : ∀ (d i : Nat) (r s : RowT), (sortR rows)[i]? = some r → (sortR rows)[i + d]? = some s → r.a = s.a → r.b = s.b := by
    intro d
    induction d with
    | zero =>
      intro i r s h1 h2 _
      rw [Nat.add_zero, h1] at h2
      rw [Option.some.inj h2]
    | succ d ih =>
      intro i r s h1 h2 e
      have hlt : i + 1 < (sortR rows).length := by
        have := (List.getElem?_eq_some_iff.mp h2).1
        omega
      obtain ⟨t, ht⟩ := getD_some hlt
      have m1 := sortR_le h1 ht (Nat.le_succ i)
      have m2 := sortR_le ht h2 (by omega)
      rw [← e] at m2
      have et : r.a = t.a := List.le_antisymm m1 m2
      have no := h i
      have mem : ∀ {j u}, (sortR rows)[j]? = some u → u ∈ rows := fun z => (sortR_perm rows).mem_iff.mp (List.mem_of_getElem? z)
      have e1 : r.b = t.b := by
        obtain ⟨l1, l2⟩ := one r (mem h1)
        obtain ⟨l3, l4⟩ := one t (mem ht)
        match hra : r.a, hrb : r.b, hta : t.a, htb : t.b with
        | [x], [y], [z], [w] =>
          rw [hra, hta] at et
          have et : x = z := by injection et
          refine Classical.byContradiction fun ne => no ⟨r, t, h1, ht, ?_⟩
          rw [hra, hrb, hta, htb]
          have : y ≠ w := fun q => ne (by rw [q])
          simp [pfx, et, this]
        | [], _, _, _ => rw [hra] at l1; cases l1
        | _ :: _ :: _, _, _, _ => rw [hra] at l1; simp at l1
        | _, [], _, _ => rw [hrb] at l2; cases l2
        | _, _ :: _ :: _, _, _ => rw [hrb] at l2; simp at l2
        | _, _, [], _ => rw [hta] at l3; cases l3
        | _, _, _ :: _ :: _, _ => rw [hta] at l3; simp at l3
        | _, _, _, [] => rw [htb] at l4; cases l4
        | _, _, _, _ :: _ :: _ => rw [htb] at l4; simp at l4
      exact e1.trans (ih (i + 1) t s ht (by rw [show i + 1 + d = i + (d + 1) by omega]; exact h2) (et.symm.trans e))
  obtain ⟨i, hi⟩ := List.mem_iff_getElem?.mp ((sortR_perm rows).mem_iff.mpr hr)
  obtain ⟨j, hj⟩ := List.mem_iff_getElem?.mp ((sortR_perm rows).mem_iff.mpr hs)
  rcases Nat.le_total i j with h1 | h1
  · exact key (j - i) i r s hi (by rw [show i + (j - i) = j by omega]; exact hj) e
  · exact (key (i - j) j s r hj (by rw [show j + (i - j) = i by omega]; exact hi) e.symm).symm
theorem split_at {α : Type} {l : List α} {i : Nat} {r s : α} (h1 : l[i]? = some r) (h2 : l[i + 1]? = some s) : l = l.take i ++ r :: s :: l.drop (i + 2) := by
  obtain ⟨b1, q1⟩ := List.getElem?_eq_some_iff.mp h1
  obtain ⟨b2, q2⟩ := List.getElem?_eq_some_iff.mp h2
  rw [← q1, ← q2, List.getElem_cons_drop, List.getElem_cons_drop, List.take_append_drop]
/-- the first row stands first among its like -/
theorem part_first {o : RowT} {rest : List RowT} (ho : ∀ r ∈ rest, r.l ≠ []) (hl : o.l = []) {i : Nat} {r s : RowT} (h1 : (sortR (o :: rest))[i]? = some r) (h2 : (sortR (o :: rest))[i + 1]? = some s) (e : r.a = s.a) : s.l ≠ [] := by
  intro hs
  have mem : s ∈ o :: rest := (sortR_perm _).mem_iff.mp (List.mem_of_getElem? h2)
  have es : s = o := by
    rcases List.mem_cons.mp mem with z | z
    · exact z
    · exact absurd hs (ho s z)
  subst es
  have st := PySem.W.sort_stable rowLe_total (s :: rest) s
  have self : PySem.W.sameRank rowLe s s = true := PySem.W.sameRank_self rowLe_total s
  have sr : PySem.W.sameRank rowLe s r = true := by
    have : PySem.W.sameRank rowLe s r = PySem.W.sameRank rowLe s s := by
      unfold PySem.W.sameRank rowLe
      rw [e]
    rw [this]
    exact self
  have sp := split_at h1 h2
  have st : (sortR (s :: rest)).filter (PySem.W.sameRank rowLe s) = (s :: rest).filter (PySem.W.sameRank rowLe s) := st
  rw [sp, List.filter_append, List.filter_cons_of_pos (by rw [sr]), List.filter_cons_of_pos (by rw [self]), List.filter_cons_of_pos (by rw [self])] at st
  generalize ((sortR (s :: rest)).take i).filter (PySem.W.sameRank rowLe s) = pre at st
  have inr : s ∈ rest.filter (PySem.W.sameRank rowLe s) := by
    cases pre with
    | nil =>
      rw [List.nil_append] at st
      injection st with _ st
      rw [← st]
      exact List.mem_cons_self
    | cons p pre =>
      rw [List.cons_append] at st
      injection st with _ st
      rw [← st]
      exact List.mem_append_right _ (List.mem_cons_of_mem _ List.mem_cons_self)
  exact ho s (List.mem_filter.mp inr).1 hs
/-! ### columns that go alike -/
variable {v n : Nat} {ts : List Nat}
structure ColsP (v n : Nat) (ts : List Nat) : Prop where
  go : ∀ (x y : List Int) (k l : Nat), x.length = n → y.length = n → InW v x → InW v y → k < v → l < v → colI x k = colI y l → colI (imgT v n ts x) k = colI (imgT v n ts y) l
  zero : ∀ (x : List Int) (k : Nat), x.length = n → InW v x → k < v → colI x k = 0 → colI (imgT v n ts x) k = 0
theorem low_cols {x y : List Int} (hl : x.length = y.length) : ∀ m, lowL m x = lowL m y ↔ ∀ k, k < m → colI x k = colI y k
  | 0 => ⟨fun _ k hk => absurd hk (Nat.not_lt_zero _), fun _ => low_zero (n := x.length) rfl hl.symm⟩
  | m + 1 => by
    rw [low_succ hl, low_cols hl m]
    constructor
    · rintro ⟨h1, h2⟩ k hk
      rcases Nat.lt_or_eq_of_le (Nat.le_of_lt_succ hk) with h | h
      · exact h1 k h
      · rw [h]
        exact h2
    · intro h
      exact ⟨fun k hk => h k (by omega), h m (by omega)⟩
theorem ColsP.tri (c : ColsP v n ts) (ht : IsP (2 ^ (n * v)) ts) : Tri v n ts := fun m hm xs ys h1 h2 h3 h4 e => by
  have i1 := img_in ht h1 h3
  have i2 := img_in ht h2 h4
  refine (low_cols (i1.1.trans i2.1.symm) m).mpr fun k hk => ?_
  exact c.go xs ys k k h1 h2 h3 h4 (by omega) (by omega) ((low_cols (h1.trans h2.symm) m).mp e k hk)
theorem Tri.toB {b : Nat} (t : Tri v n ts) (h : b ≤ v) : TriB v n ts b := fun m hm => t m (by omega)
def noughtT : RowT := ⟨[0], [0], []⟩
def rowT (v n : Nat) (ts : List Nat) (x : List Int) (k : Nat) : RowT := ⟨[colI x k], [colI (imgT v n ts x) k], [.int k, .tuple (x.map .int)]⟩
def rowsT (v n : Nat) (ts : List Nat) (xs : List (List Int)) : List RowT := noughtT :: xs.flatMap fun x => (List.range v).map (rowT v n ts x)
theorem rowsT_mem {xs : List (List Int)} {r : RowT} : r ∈ rowsT v n ts xs ↔ r = noughtT ∨ ∃ x ∈ xs, ∃ k, k < v ∧ r = rowT v n ts x k := by
  unfold rowsT
  rw [List.mem_cons, List.mem_flatMap]
  refine or_congr Iff.rfl ⟨fun ⟨x, hx, h⟩ => ?_, fun ⟨x, hx, k, hk, e⟩ => ⟨x, hx, ?_⟩⟩
  · obtain ⟨k, hk, rfl⟩ := List.mem_map.mp h
    exact ⟨x, hx, k, List.mem_range.mp hk, rfl⟩
  · rw [e]
    exact List.mem_map.mpr ⟨k, List.mem_range.mpr hk, rfl⟩
theorem cols_of_rows (h : ∀ i, ¬ PartAt (rowsT v n ts (allT v n)) i) : ColsP v n ts := by
  have one : ∀ r ∈ rowsT v n ts (allT v n), r.a.length = 1 ∧ r.b.length = 1 := fun r hr => by
    rcases rowsT_mem.mp hr with rfl | ⟨x, _, k, _, rfl⟩ <;> exact ⟨rfl, rfl⟩
  have inn : ∀ {x : List Int} {k : Nat}, x.length = n → InW v x → k < v → rowT v n ts x k ∈ rowsT v n ts (allT v n) := fun h1 h2 hk => rowsT_mem.mpr (.inr ⟨_, allT_in h1 h2, _, hk, rfl⟩)
  constructor
  · intro x y k l h1 h2 h3 h4 hk hl e
    have := part_none h one (inn h1 h3 hk) (inn h2 h4 hl) (by show [_] = [_]; rw [e])
    injection this
  · intro x k h1 h3 hk e
    have := part_none h one (inn h1 h3 hk) (rowsT_mem.mpr (.inl rfl)) (by show [_] = [_]; rw [e])
    injection this
/-! ### what the marks are of -/
theorem pfx_cons (x y : Int) (xs ys : List Int) : pfx (x :: xs) (y :: ys) = if x = y then pfx xs ys + 1 else 0 := rfl
theorem pfx_nil (ys : List Int) : pfx [] ys = 0 := by
  cases ys <;> rfl
theorem pfx_nil2 (xs : List Int) : pfx xs [] = 0 := by
  cases xs <;> rfl
theorem drop_at {α : Type} {xs : List α} {i : Nat} {x : α} (h : xs[i]? = some x) : xs.drop i = x :: xs.drop (i + 1) := by
  obtain ⟨h1, h2⟩ := List.getElem?_eq_some_iff.mp h
  rw [← h2, List.getElem_cons_drop]
def dblL (v : Nat) (ws : List Int) : List Int := ws.map fun x => x * 2 % 2 ^ v
theorem dblL_len (v : Nat) (ws : List Int) : (dblL v ws).length = ws.length := List.length_map ..
theorem dblL_in (v : Nat) (ws : List Int) : InW v (dblL v ws) := fun x hx => by
  obtain ⟨y, _, rfl⟩ := List.mem_map.mp hx
  have := two_pow_pos v
  exact ⟨Int.emod_nonneg _ (by omega), Int.emod_lt_of_pos _ this⟩
def IsSt (v n : Nat) (x : List Int) : Prop := x.length = n ∧ InW v x
def sD (x : List Int) : PyData := .tuple (x.map .int)
def ColPaper (v n : Nat) (ts : List Nat) (d : List PyData) : Prop :=
  (∃ (k l : Nat) (x y : List Int), k < v ∧ l < v ∧ IsSt v n x ∧ IsSt v n y ∧ colI x k = colI y l ∧ colI (imgT v n ts x) k ≠ colI (imgT v n ts y) l ∧ d = [.str "columns", .int k, sD x, .int l, sD y]) ∨
  ∃ (k : Nat) (x : List Int), k < v ∧ IsSt v n x ∧ colI x k = 0 ∧ colI (imgT v n ts x) k ≠ 0 ∧ d = [.str "nought", .int k, sD x]
def zeroL (n : Nat) : List Int := List.replicate n 0
def BitsPaper (v n : Nat) (ts : List Nat) (d : List PyData) : Prop := ColPaper v n ts d ∨ (3 < n ∧ ColsP v n ts ∧ par (movN v n ts 0 (zeroL n)) = 1 ∧ d = [.str "odd"])
def DblP (v n : Nat) (ts : List Nat) : Prop := ∀ x, IsSt v n x → imgT v n ts (dblL v x) = dblL v (imgT v n ts x)
def SeesPaper (v n : Nat) (ts : List Nat) (d : List PyData) : Prop := ∃ (k : Nat) (x : List Int), 1 ≤ k ∧ k < v ∧ IsSt v n x ∧ lowL k (imgT v n ts x) ≠ lowL k (imgT v n ts (lowL k x)) ∧ d = [.str "sees", .int k, sD (lowL k x), sD x]
def DblPaper (v n : Nat) (ts : List Nat) (d : List PyData) : Prop := ∃ x, IsSt v n x ∧ imgT v n ts (dblL v x) ≠ dblL v (imgT v n ts x) ∧ d = [.str "doubles", sD x]
/-- levels may be moved so -/
def SgnP (v n : Nat) (ts : List Nat) : Prop := ∀ (k m : Nat) (low other : List Int), k < v → m < v → IsSt k n low → IsSt m n other → par (movN v n ts k low) = par (movN v n ts m other) ∧ (3 < n → par (movN v n ts k low) = 0)
def SgnPaper (v n : Nat) (ts : List Nat) (d : List PyData) : Prop :=
  (3 < n ∧ ∃ (k : Nat) (low : List Int), k < v ∧ IsSt k n low ∧ par (movN v n ts k low) = 1 ∧ d = [.str "odd", .int k, sD low]) ∨
  (n = 3 ∧ ∃ (k : Nat) (low : List Int), k < v ∧ IsSt k n low ∧ par (movN v n ts 0 (zeroL n)) ≠ par (movN v n ts k low) ∧ d = [.str "unlike", .int 0, sD (zeroL n), .int k, sD low])
/-- what is asked of a table for a language -/
def Fit (v n : Nat) (ts : List Nat) (lang : Str) : Prop :=
  (lang = "bits" ∧ ColsP v n ts ∧ (3 < n → par (movN v n ts 0 (zeroL n)) = 0)) ∨ (lang ≠ "bits" ∧ Tri v n ts ∧ (lang = "sums" → DblP v n ts) ∧ SgnP v n ts)
def Pap (v n : Nat) (ts : List Nat) (lang : Str) (d : List PyData) : Prop :=
  (lang = "bits" ∧ BitsPaper v n ts d) ∨ (lang ≠ "bits" ∧ (SeesPaper v n ts d ∨ (lang = "sums" ∧ Tri v n ts ∧ DblPaper v n ts d) ∨ (Tri v n ts ∧ SgnPaper v n ts d)))
theorem zero_st (n : Nat) : IsSt 0 n (zeroL n) := ⟨List.length_replicate, fun x hx => by
  rw [List.eq_of_mem_replicate hx]
  exact ⟨Int.le_refl _, by decide⟩⟩
theorem pap_not {v n : Nat} {ts : List Nat} {lang : Str} {d : List PyData} (hv : 1 ≤ v) (hn : 3 ≤ n) (h : Pap v n ts lang d) : ¬ Fit v n ts lang := fun f => by
  rcases h with ⟨e, h⟩ | ⟨ne, h⟩
  · rcases f with ⟨_, c, o⟩ | ⟨ne, _⟩
    · rcases h with (⟨k, l, x, y, hk, hl, sx, sy, e1, e2, _⟩ | ⟨k, x, hk, sx, e1, e2, _⟩) | ⟨h3, _, p, _⟩
      · exact e2 (c.go x y k l sx.1 sy.1 sx.2 sy.2 hk hl e1)
      · exact e2 (c.zero x k sx.1 sx.2 hk e1)
      · rw [o h3] at p
        cases p
    · exact ne e
  · rcases f with ⟨e, _⟩ | ⟨_, t, d2, sg⟩
    · exact ne e
    · rcases h with ⟨k, x, k1, k2, sx, ne2, _⟩ | ⟨e, _, x, sx, ne2, _⟩ | ⟨_, (⟨h3, k, low, hk, sl, p, _⟩ | ⟨h3, k, low, hk, sl, p, _⟩)⟩
      · have lx := (lowL_len k x).trans sx.1
        exact ne2 (t k (by omega) x (lowL k x) sx.1 lx sx.2 ((lowL_in k x).up (by omega)) (lowL_low (Nat.le_refl k) x).symm)
      · exact ne2 (d2 e x sx)
      · rw [(sg k k low low hk hk sl sl).2 h3] at p
        cases p
      · exact p (sg 0 k (zeroL n) low (by omega) hk (zero_st n) sl).1
section
variable {X : Cx} {rs : Rs} {M : Mem} {ρ : List (Option Ab)} {a b : Expr} {pos : Pos} {ds : List PyData} {i j : Int}
/-- a tuple as a test -/
theorem dt_tupTrue (ha : DE X rs M ρ a (Is (aT ds))) (he : ∀ whole, isTrue a X.env whole = (do let v ← whole; standAt a.pos; holding [v] (truthy v)) := by intro _; rfl) : DT X rs M ρ a (fun c => c = !ds.isEmpty) :=
  pt_weak (pt_truth ha he) fun σ H Q ⟨G, l, ok, k⟩ => ⟨G, l, ok, fun v y G1 H1 ry rep n => by
    subst ry
    obtain ⟨p, vs, rfl, sq, ra⟩ := tup_get (ok.nxt n) rep
    refine ⟨!ds.isEmpty, .inr (.inl ⟨vs, sq, ?_⟩), k _ G1 H1 rfl n⟩
    have := ra.length
    rw [List.length_map] at this
    cases vs <;> cases ds <;> simp at this <;> rfl⟩
theorem de_gt (ha : DE X rs M ρ a (Is (aI i))) (hb : DE X rs M ρ b (Is (aI j))) : DE X rs M ρ (.Compare a [.Gt] [b] pos) (Is (aB (decide (j < i)))) := de_cmp op_gt ha hb (fun _ _ e1 e2 => by subst e1 e2; exact ar_cmp0 rfl) (nomark _)
end
theorem cut_1 {α : Type} (xs : List α) : cutA xs (some 1) none = xs.drop 1 := by
  cases xs with
  | nil => rfl
  | cons x xs => exact cut_from (p := 0) (Nat.succ_pos _)
end HW
/-! Own layer, part Tg: zip of a list and a tuple. -/
namespace HW
open PySem PySem.Spec PyProof.Rows L2 RZ
/-- the list at a and the tuple at b, as they stand at each turn, in new pairs -/
def ItM (K : PySem.W.Frag) (a b : Addr) : It where
  go := fun i H => ∃ (xs ys : List V) (x y : V), SqL K H a xs ∧ SqT K H b ys ∧ xs[i]? = some x ∧ ys[i]? = some y
  yld := fun i H v H' => ∃ T x y, v = .ref T ∧ H T = none ∧ H' = upd H T (.tup [x, y]) ∧ (∀ xs, SqL K H a xs → xs[i]? = some x) ∧ ∀ ys, SqT K H b ys → ys[i]? = some y
  stop := fun i H => ∃ xs ys : List V, SqL K H a xs ∧ SqT K H b ys ∧ i ≤ xs.length ∧ i ≤ ys.length ∧ (i = xs.length ∨ i = ys.length)
/-- how the zip's objects stand between two turns -/
def MixSt (a b z TI TO i1 i2 : Addr) (i : Nat) (h : Heap) : Prop := IsZip h z TI TO .none ∧ IsTupOf2 h TI (.ref i1) (.ref i2) ∧ (∃ x y, IsTupOf2 h TO x y) ∧ h.IsListIter i1 a i ∧ h.IsTupleIter i2 b i
theorem turn_mix {P : Program} {w : World} {K : PySem.W.Frag} {elts : List Expr} {kk : Nat} {tpos : Pos} {a b z TI TO i1 i2 : Addr} (S : ZipSep2 z TI TO i1 i2 [i1, a] [i2, b]) (ne1 : a ≠ i1) (ne2 : b ≠ i2) :
    Turn P w K (.Tuple elts kk tpos) (ItM K a b) [z, TI, TO, i1, i2] z (MixSt a b z TI TO i1 i2) where
  mem := List.mem_cons_self
  obj := by
    rintro i h ⟨hz, hI, ⟨x, y, hO⟩, ⟨o1, e1, _, d1⟩, ⟨o2, e2, _, d2⟩⟩ c hc
    simp only [List.mem_cons, List.not_mem_nil, or_false] at hc
    rcases hc with rfl | rfl | rfl | rfl | rfl
    · exact ⟨_, hz, fun v q => by cases q⟩
    · exact ⟨_, hI, fun v q => by cases q⟩
    · exact ⟨_, hO, fun v q => by cases q⟩
    · exact ⟨o1, e1, fun v q => by rw [d1] at q; cases q⟩
    · exact ⟨o2, e2, fun v q => by rw [d2] at q; cases q⟩
  keep := by
    rintro i h h' ⟨hz, hI, ⟨x, y, hO⟩, f1, f2⟩ k
    exact ⟨k z (by simp) _ hz, k TI (by simp) _ hI, ⟨x, y, k TO (by simp) _ hO⟩, f1.at (fun o q => k i1 (by simp) o q), f2.at (fun o q => k i2 (by simp) o q)⟩
  item := by
    intro X eP ew eK calm i pins s σ H E I hf st hg
    subst eP ew eK
    obtain ⟨hz, hI, ⟨x0, y0, hO⟩, f1, f2⟩ := st
    obtain ⟨xs, ys, x, y, sx, sy, hx, hy⟩ := hg
    obtain ⟨its, rv, pl, _⟩ := I.list sx
    obtain ⟨jts, rw_, pt, _⟩ := I.tuple sy
    have hd := show X.A.in1.handled = none from I.ok.hd calm
    have D1 := Draws.list (prog := X.prog) (w := X.w) (A := X.A.in1) hd i1 a ne1 its.toArray
    have D2 := Draws.tuple (prog := X.prog) (w := X.w) (A := X.A.in1) hd i2 b ne2 jts.toArray
    have l1 : i < its.toArray.size := by
      rw [List.size_toArray, ← rv.length]
      exact (List.getElem?_eq_some_iff.mp hx).1
    have l2 : i < jts.toArray.size := by
      rw [List.size_toArray, ← rw_.length]
      exact (List.getElem?_eq_some_iff.mp hy).1
    have zl : z < s.heap.objs.size := Heap.lt_size hz
    refine wpAny_pyNext_zipD2_item S D1 D2 hz hI hO ⟨f1, pl.isList⟩ ⟨f2, show s.heap.IsTuple b jts.toArray from pt⟩ l1 l2 ?_
    intro u1 u2 h1 tk p1 p2 z1 o1 t1 t2 new1 size1 kept
    refine ⟨_, rfl, wpAny_letOwnedTupleGo_zip (s := { s with heap := h1, toks := tk }) z1 ?_⟩
    intro h2 z2 sb
    obtain ⟨v1, ev1, r1⟩ := rv.get hx
    obtain ⟨v2, ev2, r2⟩ := rw_.get hy
    have q1 : v1 = u1 := by
      have p1' : its[i]? = some u1 := by simpa using p1
      rw [ev1] at p1'
      exact Option.some.inj p1'
    have q2 : v2 = u2 := by
      have p2' : jts[i]? = some u2 := by simpa using p2
      rw [ev2] at p2'
      exact Option.some.inj p2'
    subst q1 q2
    have at2 : h2.get? s.heap.objs.size = some { cls := .type "tuple", data := .seq #[v1, v2] } := (sb.2 _ (Nat.ne_of_gt zl)).trans new1
    have newOk : ObjOk X.prog X.w (upd H s.heap.objs.size (.tup [x, y])) h2 s.heap.objs.size (.tup [x, y]) := And.intro (by show 2 ≤ sizeLine; decide) ⟨[v1, v2], .cons r1 (.cons r2 .nil), ⟨_, at2, rfl, _, rfl⟩⟩
    have off : ∀ c o, c ∉ [z, TI, TO, i1, i2] → s.heap.get? c = some o → h2.get? c = some o := fun c o n q => by
      simp only [List.mem_cons, List.not_mem_nil, or_false, not_or] at n
      exact (sb.2 c n.1).trans (kept c o n.1 n.2.2.1 n.2.2.2.1 n.2.2.2.2 q)
    have I1 : Inv X pins σ (upd H s.heap.objs.size (.tup [x, y])) { s with heap := h2, toks := tk } := I.turnedNew (ch := [z, TI, TO, i1, i2]) off hf (Nat.le_refl _) newOk
    have zi1 : i1 ≠ z := fun q => S.zf1 (by rw [q]; exact List.mem_cons_self)
    have zi2 : i2 ≠ z := fun q => S.zf2 (by rw [q]; exact List.mem_cons_self)
    refine ⟨.ref s.heap.objs.size, _, I1, rfl, ⟨_, x, y, rfl, I.hok.fresh (Nat.le_refl _), rfl, ?_, ?_⟩, ⟨z2, ?_, ⟨v1, v2, ?_⟩, ?_, ?_⟩, ?_⟩
    · intro l hl
      rw [I.list_inj hl sx]
      exact hx
    · intro l hl
      rw [I.tuple_inj hl sy]
      exact hy
    · exact (sb.2 TI S.TIz).trans (kept TI _ S.TIz S.TITO S.TIi1 S.TIi2 hI)
    · exact (sb.2 TO S.TOz).trans o1
    · exact t1.1.at fun o q => (sb.2 i1 zi1).trans q
    · exact t2.1.at fun o q => (sb.2 i2 zi2).trans q
    · intro c hc
      have old : c < s.heap.objs.size := by
        simp only [List.mem_cons, List.not_mem_nil, or_false] at hc
        rcases hc with rfl | rfl | rfl | rfl | rfl
        · exact zl
        · exact Heap.lt_size hI
        · exact Heap.lt_size hO
        · obtain ⟨_, q, _⟩ := f1
          exact Heap.lt_size q
        · obtain ⟨_, q, _⟩ := f2
          exact Heap.lt_size q
      rw [upd_ne (Nat.ne_of_lt old)]
      exact (hf c hc).1
  done := by
    intro X eP ew eK calm i pins s σ H E I hf st hg
    subst eP ew eK
    obtain ⟨hz, hI, ⟨x0, y0, hO⟩, f1, f2⟩ := st
    obtain ⟨xs, ys, sx, sy, k1, k2, k3⟩ := hg
    obtain ⟨its, rv, pl, _⟩ := I.list sx
    obtain ⟨jts, rw_, pt, _⟩ := I.tuple sy
    have hd := show X.A.in1.handled = none from I.ok.hd calm
    have D1 := Draws.list (prog := X.prog) (w := X.w) (A := X.A.in1) hd i1 a ne1 its.toArray
    have D2 := Draws.tuple (prog := X.prog) (w := X.w) (A := X.A.in1) hd i2 b ne2 jts.toArray
    have e1 : its.toArray.size = xs.length := by rw [List.size_toArray, rv.length]
    have e2 : jts.toArray.size = ys.length := by rw [List.size_toArray, rw_.length]
    refine wpAny_pyNext_zipD2_end S D1 D2 hz hI hO ⟨f1, pl.isList⟩ ⟨f2, show s.heap.IsTuple b jts.toArray from pt⟩ (by omega) (by omega) (by omega) ?_
    intro h1 tk kept
    refine And.intro rfl (I.turnedL (t' := tk) (ch := [z, TI, TO, i1, i2]) (fun c o n q => ?_) hf)
    simp only [List.mem_cons, List.not_mem_nil, or_false, not_or] at n
    exact kept c o n.1 n.2.2.1 n.2.2.2.1 n.2.2.2.2 q
  self := by
    intro A i s Q E st h
    exact wpAny_pyIter_zip st.1 h
def iMix (K : PySem.W.Frag) (ta : TA) : TI := fun σ H R => ta σ H fun vs H1 => ∃ a b xs ys, vs = [.ref a, .ref b] ∧ SqL K H1 a xs ∧ SqT K H1 b ys ∧ R (ItM K a b) H1
section
variable {X : Cx} {rs : Rs} {M : Mem} {ρ : List (Option Ab)} {e f : Expr} {p pos tpos : Pos} {elts : List Expr} {kk : Nat} {RI : Nat → (Nat → Ab → Prop) → Prop}
theorem pi_mix {ta : TA} (hg : Gl X "zip") (hm : X.mg "zip" = none) (ha : PA X [e, f] ta) (hs : starEach [e, f] X.env = (false, eval e X.env) :: starEach [f] X.env := by rfl) (hpl : (backTo pos (starEach [f] X.env)).any (·.1) = false := by rfl) :
    PI X (.Tuple elts kk tpos) (.Call (.Name "zip" p) [e, f] [] pos) (iMix X.K ta) := by
  constructor
  intro pins s σ H R I h
  refine Call_ (ld_blt I hg hm boot_zip (PyProof.Rows.callWith_type1 (thn (ha.run pos pins s σ H _ I h) fun us s1 got => ?_) hs hpl))
  obtain ⟨vs, H1, I1, r1, a, b, xs, ys, same, sx, sy, fin⟩ := got
  subst same
  match us, r1 with
  | [_, _], .cons (a := V.ref _) q1 (.cons (a := V.ref _) q2 .nil) =>
    have q1 : _ = Value.ref a := q1
    have q2 : _ = Value.ref b := q2
    subst q1 q2
    obtain ⟨its, rv, pl, _⟩ := I1.list sx
    obtain ⟨jts, rw_, pt, _⟩ := I1.tuple sy
    have la : a < s1.heap.objs.size := pl.lt
    have lb : b < s1.heap.objs.size := by
      obtain ⟨o, q, _⟩ := pt
      exact Heap.lt_size q
    refine zip_begins2 (begins_list a its.toArray) (begins_tuple b jts.toArray) pl.isList (show s1.heap.IsTuple b jts.toArray from pt) ?_
    intro h1 hz hI hO f1 f2 size1 kept
    refine wpAny_pyIter_zip hz ?_
    have I2 : Inv X pins σ H1 { s1 with heap := h1 } := I1.kept (t' := s1.toks) kept
    have sep := zip_sep2 (N := s1.heap.objs.size) (fp1 := [a]) (fp2 := [b]) (fun c hc => by rw [List.mem_singleton.mp hc]; exact la) (fun c hc => by rw [List.mem_singleton.mp hc]; exact lb)
    refine ⟨s1.heap.objs.size + 4, [s1.heap.objs.size + 4, s1.heap.objs.size + 2, s1.heap.objs.size + 3, s1.heap.objs.size, s1.heap.objs.size + 1], _, _, H1, rfl, I2, turn_mix sep (Nat.ne_of_lt la) (Nat.ne_of_lt (Nat.lt_succ_of_lt lb)), ⟨hz, hI, ⟨_, _, hO⟩, ⟨_, f1, rfl, rfl⟩, ⟨_, f2, rfl, rfl⟩⟩, fun c hc => ?_, fin⟩
    have le : s1.heap.objs.size ≤ c := by
      simp only [List.mem_cons, List.not_mem_nil, or_false] at hc
      rcases hc with rfl | rfl | rfl | rfl | rfl
      · exact Nat.le_add_right _ 4
      · exact Nat.le_add_right _ 2
      · exact Nat.le_add_right _ 3
      · exact Nat.le_refl _
      · exact Nat.le_add_right _ 1
    exact I1.fpOk le (I1.hok.fresh le)
theorem itOk_mix {K : PySem.W.Frag} {G : Hp} {a b : Addr} {xs ys : List V} {ds es : List PyData} (hx : SqL K G a xs) (rx : DpAll K G xs ds) (hy : SqT K G b ys) (ry : DpAll K G ys es) : ItOk K G (ItM K a b) (min ds.length es.length) (AtZ ds es) := fun rs M G1 H1 e ok => by
  have h1 : SqL K H1 a xs := sqL_same (e.trans ok.gh) hx
  have h2 : SqT K H1 b ys := sqT_same (e.trans ok.gh) hy
  have rx' := repAll_dp.mpr rx
  have ry' := repAll_dp.mpr ry
  have lx : xs.length = ds.length := by rw [rx'.length, List.length_map]
  have ly : ys.length = es.length := by rw [ry'.length, List.length_map]
  refine ⟨fun i hi => ?_, xs, ys, h1, h2, by omega, by omega, by omega⟩
  obtain ⟨x, ex⟩ := getD_some (xs := xs) (i := i) (by omega)
  obtain ⟨y, ey⟩ := getD_some (xs := ys) (i := i) (by omega)
  refine ⟨⟨xs, ys, x, y, h1, h2, ex, ey⟩, fun v H2 yl => ?_⟩
  obtain ⟨T, x', y', rfl, hT, rfl, f1, f2⟩ := yl
  obtain ⟨d', hd, rd⟩ := rx'.get' (f1 xs h1)
  obtain ⟨e', he, re⟩ := ry'.get' (f2 ys h2)
  rw [List.getElem?_map] at hd he
  obtain ⟨d, qd, rfl⟩ := Option.map_eq_some_iff.mp hd
  obtain ⟨d2, qd2, rfl⟩ := Option.map_eq_some_iff.mp he
  obtain ⟨r, n⟩ := pair_nxt ok hT (dp_same e _ _ rd) (dp_same e _ _ re)
  exact ⟨_, _, ⟨d, d2, qd, qd2, rfl⟩, r, n⟩
/-- zip of a list and a tuple -/
theorem di_zipM {T : List Ab → Prop} (hg : Gl X "zip") (hm : X.mg "zip" = none) (ha : DA X rs M ρ [e, f] T) (w : ∀ as, T as → ∃ ds es, as = [aL ds, aT es] ∧ RI (min ds.length es.length) (AtZ ds es))
    (hs : starEach [e, f] X.env = (false, eval e X.env) :: starEach [f] X.env := by rfl) (hpl : (backTo pos (starEach [f] X.env)).any (·.1) = false := by rfl) : DI X rs M ρ (.Tuple elts kk tpos) (.Call (.Name "zip" p) [e, f] [] pos) RI :=
  pi_weak (pi_mix hg hm ha hs hpl) fun σ H T ⟨G, l, ok, k⟩ => ⟨G, l, ok, fun vs as G1 H1 ry rep n => by
    obtain ⟨ds, es, rfl, ri⟩ := w as ry
    match vs, rep with
    | [v, u], ⟨r, r2, _⟩ =>
      have r : Dp X.K G1 v (.list ds) := r
      have r2 : Dp X.K G1 u (.tuple es) := r2
      cases r with
      | lst hx rx =>
        cases r2 with
        | tup hy ry => exact ⟨_, _, _, _, rfl, .inl (.inl (n.gh _ _ hx)), sqT_same n.gh hy, k _ _ _ G1 H1 ri (itOk_mix (.inl (.inl hx)) rx hy ry) n⟩⟩
end
end HW
/-! Own layer, part Th: sorted numbers, "not in", numbers as tests, great numbers; the way of tables of one level. -/
namespace HW
open PySem PySem.Spec PyProof.Rows L2 RZ
theorem dpAll_of_ints {K : PySem.W.Frag} {G : Hp} : ∀ ws : List Int, DpAll K G (ws.map V.int) (ws.map .int)
  | [] => .nil
  | w :: ws => .cons (Dp.int w) (dpAll_of_ints ws)
section
variable {X : Cx} {rs : Rs} {M : Mem} {ρ : List (Option Ab)} {a b e : Expr} {p pos : Pos} {i : Int} {Ra : Ab → Prop}
/-- sorted(e) of numbers -/
theorem dn_sortI {T : List Ab → Prop} (hm : X.mg "sorted" = none) (ha : DE X rs M ρ e Ra) (h : ∀ y, Ra y → ∃ ws : List Int, y = aL (ws.map .int) ∧ ∀ ws' : List Int, ws'.Perm ws → ws'.Pairwise (· ≤ ·) → T ((ws'.map PyData.int).map .d)) (hg : Gl X "sorted" := by rfl)
    (he : starEach [e] X.env = (false, eval e X.env) :: starEach [] X.env := by rfl) (hpl : (backTo pos (starEach [] X.env)).any (·.1) = false := by rfl) : DN X rs M ρ (.Call (.Name "sorted" p) [e] [] pos) T :=
  pe_weak (pe_callB cr_sortedI hg hm (by decide +kernel) (da_consR (T' := fun as => ∃ y, as = [y] ∧ Ra y) ha da_nil (fun y ys hy hys => ⟨y, by rw [hys], hy⟩) he) (by decide) (by decide) he hpl) fun σ H Q ⟨G, l, ok, k⟩ => ⟨G, l, ok, fun vs as G1 H1 ra rep n => by
    obtain ⟨y, rfl, hy⟩ := ra
    obtain ⟨ws, rfl, ht⟩ := h y hy
    obtain ⟨v, rfl, r⟩ := repAll_one rep
    have ok1 := ok.nxt n
    have r : Dp X.K G1 v (.list (ws.map .int)) := r
    cases r with
    | lst hx rx =>
      rw [dpAll_ints rx] at hx
      refine ⟨_, ws, rfl, .inl (.inl (ok1.gh _ _ hx)), fun ws' q p1 p2 hq => ?_⟩
      exact k q _ _ G1 _ (ht ws' p1 p2) (repAll_dp.mpr (dpAll_of_ints ws')) upd_same (ok1.gnone hq) (fresh_of ok n hq) (n.trans (Nxt.newM ok1 hq) ok)⟩
/-- i not in (..) -/
theorem dt_notInT {ws : List Int} (ha : DE X rs M ρ a (Is (aI i))) (hb : DE X rs M ρ b (Is (aT (ws.map .int)))) (hmk : behindInMarks .NotIn b = false := by rfl) : DT X rs M ρ (.Compare a [.NotIn] [b] pos) (fun c => c = !decide (i ∈ ws)) :=
  dt_cmp op_notIn_seq ha hb (fun _ _ e1 e2 => by
    subst e1 e2
    refine fun G H v u Q ok r1 r2 k => ?_
    rw [rep_int r1]
    have r2 : Dp X.K G u (.tuple (ws.map .int)) := r2
    cases r2 with
    | tup st al =>
      rw [dpAll_ints al] at st
      refine ⟨_, _, rfl, .inr (sqT_same ok.gh st), rfl, flat_ints ws, ?_⟩
      rw [if_pos rfl, inV_ints]
      exact k _ _ G H ⟨_, rfl, rfl⟩ (Dp.bl _) (Nxt.rfl ok)) hmk
/-- i not in [..] -/
theorem dt_notInL {ws : List Int} (ha : DE X rs M ρ a (Is (aI i))) (hb : DE X rs M ρ b (Is (aL (ws.map .int)))) (hmk : behindInMarks .NotIn b = false := by rfl) : DT X rs M ρ (.Compare a [.NotIn] [b] pos) (fun c => c = !decide (i ∈ ws)) :=
  dt_cmp op_notIn_seq ha hb (fun _ _ e1 e2 => by
    subst e1 e2
    refine fun G H v u Q ok r1 r2 k => ?_
    rw [rep_int r1]
    have r2 : Dp X.K G u (.list (ws.map .int)) := r2
    cases r2 with
    | lst hx rx =>
      rw [dpAll_ints rx] at hx
      refine ⟨_, _, rfl, .inl (.inl (.inl (ok.gh _ _ hx))), rfl, flat_ints ws, ?_⟩
      rw [if_pos rfl, inV_ints]
      exact k _ _ G H ⟨_, rfl, rfl⟩ (Dp.bl _) (Nxt.rfl ok)) hmk
/-- a text or None, that stands there: not in (.., .., None) -/
theorem dt_notInSN {s t : Str} (ha : DE X rs M ρ a (fun y => y = aS s ∨ y = aS t ∨ y = aN)) (hb : DE X rs M ρ b (Is (aT [.str s, .str t, .none]))) (hmk : behindInMarks .NotIn b = false := by rfl) : DT X rs M ρ (.Compare a [.NotIn] [b] pos) (fun c => c = false) :=
  dt_cmp op_notIn_seq ha hb (fun y _ e1 e2 => by
    subst e2
    refine fun G H v u Q ok r1 r2 k => ?_
    have r2 : Dp X.K G u (.tuple [.str s, .str t, .none]) := r2
    cases r2 with
    | tup st al =>
      cases al with
      | cons d1 al =>
        cases al with
        | cons d2 al =>
          cases al with
          | cons d3 al =>
            cases al
            cases d1
            cases d2
            cases d3
            rcases e1 with rfl | rfl | rfl
            · have r1 : Dp X.K G v (.str s) := r1
              cases r1
              refine ⟨_, _, rfl, .inr (sqT_same ok.gh st), rfl, rfl, ?_⟩
              rw [if_pos rfl, show inV (.str s) [V.str s, .str t, .non] = true by simp [inV, eqV]]
              exact k _ _ G H ⟨_, rfl, rfl⟩ (Dp.bl _) (Nxt.rfl ok)
            · have r1 : Dp X.K G v (.str t) := r1
              cases r1
              refine ⟨_, _, rfl, .inr (sqT_same ok.gh st), rfl, rfl, ?_⟩
              rw [if_pos rfl, show inV (.str t) [V.str s, .str t, .non] = true by simp [inV, eqV]]
              exact k _ _ G H ⟨_, rfl, rfl⟩ (Dp.bl _) (Nxt.rfl ok)
            · have r1 : Dp X.K G v .none := r1
              cases r1
              refine ⟨_, _, rfl, .inr (sqT_same ok.gh st), rfl, rfl, ?_⟩
              rw [if_pos rfl, show inV .non [V.str s, .str t, .non] = true by simp [inV, eqV]]
              exact k _ _ G H ⟨_, rfl, rfl⟩ (Dp.bl _) (Nxt.rfl ok)) hmk
/-- a number as a test -/
theorem dt_intTrue (ha : DE X rs M ρ a (Is (aI i))) (he : ∀ whole, isTrue a X.env whole = (do let v ← whole; standAt a.pos; holding [v] (truthy v)) := by intro _; rfl) : DT X rs M ρ a (fun c => c = (i != 0)) :=
  pt_weak (pt_truth ha he) fun σ H Q ⟨G, l, ok, k⟩ => ⟨G, l, ok, fun v y G1 H1 ry rep n => by
    subst ry
    rw [rep_int rep]
    exact ⟨_, rfl, k _ G1 H1 rfl n⟩⟩
end
/-! ### great numbers -/
def facN (n : Nat) : Nat := Builtin.Math.factorialNat n
theorem facN_succ (n : Nat) : facN (n + 1) = facN n * (n + 1) := by
  unfold facN Builtin.Math.factorialNat
  rw [List.range_succ, List.foldl_append]
  rfl
theorem facN_pos : ∀ n, 1 ≤ facN n
  | 0 => Nat.le_refl _
  | n + 1 => by
    rw [facN_succ]
    exact Nat.mul_pos (facN_pos n) (Nat.succ_pos n)
theorem facN_le {b : Nat} : ∀ n, n ≤ 2 ^ b → facN n ≤ 2 ^ (b * n)
  | 0, _ => by show 1 ≤ _; exact Nat.one_le_two_pow
  | n + 1, h => by
    rw [facN_succ, show b * (n + 1) = b * n + b from Nat.mul_succ b n, Nat.pow_add]
    exact Nat.mul_le_mul (facN_le n (by omega)) h
theorem facI_eq (n : Nat) : facI n = (facN n : Nat) := rfl
def halfN (n : Nat) : Nat := facN n / 2
theorem halfN_succ {n : Nat} (h : 2 ≤ n) : halfN (n + 1) = halfN n * (n + 1) := by
  have ev : ∀ m, facN (m + 2) % 2 = 0 := fun m => by
    induction m with
    | zero => rfl
    | succ m ih =>
      rw [facN_succ, Nat.mul_mod, ih, Nat.zero_mul]
  obtain ⟨m, rfl⟩ : ∃ m, n = m + 2 := ⟨n - 2, by omega⟩
  unfold halfN
  have e := ev m
  rw [facN_succ (m + 2)]
  obtain ⟨q, hq⟩ : ∃ q, facN (m + 2) = 2 * q := ⟨facN (m + 2) / 2, by omega⟩
  rw [hq, Nat.mul_assoc, Nat.mul_div_cancel_left _ (by decide), Nat.mul_div_cancel_left _ (by decide)]
theorem log_le {x L : Nat} (h : x ≤ 2 ^ L) : x.log2 ≤ L := by
  by_cases z : x = 0
  · rw [z]
    exact Nat.zero_le _
  · have := (Nat.log2_lt z (k := L + 1)).mpr (Nat.lt_of_le_of_lt h (Nat.pow_lt_pow_right (by decide) (Nat.lt_succ_self L)))
    omega
theorem cmulW_of {x y L : Nat} (hx : x ≤ 2 ^ L) (hy : y ≤ 2 ^ L) (hl : L < 500000) : CMulW (x : Int) (y : Int) := by
  unfold CMulW
  rw [Int.natAbs_natCast, Int.natAbs_natCast]
  have := log_le hx
  have := log_le hy
  omega
theorem pow_le_two {b L p : Nat} (h : b ≤ 2 ^ L) : b ^ p ≤ 2 ^ (L * p) := by
  rw [Nat.pow_mul]
  exact Nat.pow_le_pow_left h p
theorem le_two {x L M : Nat} (h : x ≤ 2 ^ L) (k : L ≤ M) : x ≤ 2 ^ M := Nat.le_trans h (Nat.pow_le_pow_right (by decide) k)
theorem mul_le_two {x y L M : Nat} (h : x ≤ 2 ^ L) (k : y ≤ 2 ^ M) : x * y ≤ 2 ^ (L + M) := by
  rw [Nat.pow_add]
  exact Nat.mul_le_mul h k
/-! ### tables of one level -/
def revN (n : Nat) : List Nat := (List.range (2 ^ n)).map fun c : Nat => numN 1 (lowUp (c : Int) 0 (zeroL n))
def verN (n : Nat) : List Nat := (allT 1 n).map fun x => (colI x 0).toNat
theorem mov_one {n : Nat} {ts : List Nat} (hr : IsP (2 ^ n) (revN n)) (ht : IsP (2 ^ n) ts) : movN 1 n ts 0 (zeroL n) = thnP (thnP (revN n) ts) (verN n) := by
  refine ext_getD (by rw [movN_len, thnP_len, thnP_len, hr.len]) fun c hc => ?_
  rw [movN_len] at hc
  have l1 : c < (revN n).length := by rw [hr.len]; exact hc
  rw [movN_get hc, thnP_get (by rw [thnP_len]; exact l1), thnP_get l1]
  have e1 : (revN n).getD c 0 = numN 1 (lowUp (c : Int) 0 (zeroL n)) := by
    refine getD_of ?_
    unfold revN
    rw [List.getElem?_map, List.getElem?_range hc]
    rfl
  have lt : (ts.getD ((revN n).getD c 0) 0) < (allT 1 n).length := by
    rw [allT_len, Nat.mul_one]
    exact ht.get (hr.get hc)
  obtain ⟨x, hx⟩ := getD_some lt
  unfold imgT
  rw [← e1]
  have e2 : (verN n).getD (ts.getD ((revN n).getD c 0) 0) 0 = (colI x 0).toNat := by
    refine getD_of ?_
    unfold verN
    rw [List.getElem?_map, hx]
    rfl
  rw [e2, List.getD_eq_getElem?_getD, hx]
  rfl
def isPb (N : Nat) (l : List Nat) : Bool := decide (l.length = N) && decide l.Nodup && l.all (fun x => decide (x < N))
theorem isPb_ok {N : Nat} {l : List Nat} (h : isPb N l = true) : IsP N l := by
  unfold isPb at h
  simp only [Bool.and_eq_true, decide_eq_true_eq, List.all_eq_true] at h
  exact ⟨h.1.1, h.1.2, h.2⟩
def chkR : Bool := [3, 4].all fun n => isPb (2 ^ n) (revN n) && isPb (2 ^ n) (verN n) && decide ((par (revN n) + par (verN n)) % 2 = 0)
theorem chkR_ok : chkR = true := by decide +kernel
theorem rev_ok {n : Nat} (h : n = 3 ∨ n = 4) : IsP (2 ^ n) (revN n) ∧ IsP (2 ^ n) (verN n) ∧ (par (revN n) + par (verN n)) % 2 = 0 := by
  have := chkR_ok
  unfold chkR at this
  rw [List.all_eq_true] at this
  have := this n (by rcases h with rfl | rfl <;> simp)
  simp only [Bool.and_eq_true, decide_eq_true_eq] at this
  exact ⟨isPb_ok this.1.1, isPb_ok this.1.2, this.2⟩
/-- the sign of the columns' rearrangement is the table's -/
theorem par_mov {n : Nat} {ts : List Nat} (h : n = 3 ∨ n = 4) (ht : IsP (2 ^ n) ts) : par (movN 1 n ts 0 (zeroL n)) = par ts := by
  obtain ⟨h1, h2, h3⟩ := rev_ok h
  rw [mov_one h1 ht, par_thnP (h1.thnP ht) h2, par_thnP h1 ht]
  have := par_lt ts
  omega
theorem st_one {n : Nat} {x y : List Int} (hx : IsSt 1 n x) (hy : IsSt 1 n y) (e : colI x 0 = colI y 0) : x = y := by
  have := (low_cols (hx.1.trans hy.1.symm) 1).mpr fun k hk => by
    rw [show k = 0 by omega]
    exact e
  rw [lowL_id hx.2, lowL_id hy.2] at this
  exact this
theorem zero_st1 (n : Nat) : IsSt 1 n (zeroL n) := ⟨(zero_st n).1, fun x hx => by
  rw [List.eq_of_mem_replicate hx]
  exact ⟨Int.le_refl _, by decide⟩⟩
theorem col_zero (n : Nat) : colI (zeroL n) 0 = 0 := colI_noughts 0 n
theorem num_zero (n : Nat) : numN 1 (zeroL n) = 0 := by
  unfold numN zeroL
  induction n with
  | zero => rfl
  | succ n ih =>
    rw [List.replicate_succ, List.foldl_cons]
    exact ih
/-- nought goes to nought -/
theorem img_zero {n : Nat} {ts : List Nat} (ht : IsP (2 ^ (n * 1)) ts) : imgT 1 n ts (zeroL n) = zeroL n ↔ ts.getD 0 0 = 0 := by
  have z := zero_st1 n
  have e := img_num ht z.1 z.2
  have i1 := img_in ht z.1 z.2
  rw [num_zero] at e
  constructor
  · intro q
    rw [q, num_zero] at e
    exact e.symm
  · intro q
    have a1 := allT_at n _ i1.1 i1.2
    have a2 := allT_at n _ z.1 z.2
    rw [e, q] at a1
    rw [num_zero] at a2
    rw [a1] at a2
    exact Option.some.inj a2
def EvT (n : Nat) (ts : List Nat) : Prop := 3 < n → par ts = 0
theorem tri_one {n : Nat} {ts : List Nat} (ht : IsP (2 ^ (n * 1)) ts) : Tri 1 n ts := fun m hm x y h1 h2 h3 h4 e => by
  have i1 := img_in ht h1 h3
  have i2 := img_in ht h2 h4
  rcases Nat.lt_or_ge m 1 with z | z
  · have : m = 0 := by omega
    subst this
    exact low_zero i1.1 i2.1
  · have : m = 1 := by omega
    subst this
    rw [lowL_id h3, lowL_id h4] at e
    rw [e]
theorem fit_bits {n : Nat} {ts : List Nat} (h : n = 3 ∨ n = 4) (ht : IsP (2 ^ n) ts) : Fit 1 n ts "bits" ↔ ts.getD 0 0 = 0 ∧ EvT n ts := by
  have ht1 : IsP (2 ^ (n * 1)) ts := by rw [Nat.mul_one]; exact ht
  have pm := par_mov h ht
  have z := zero_st1 n
  have i0 := img_in ht1 z.1 z.2
  constructor
  · rintro (⟨_, c, o⟩ | ⟨ne, _⟩)
    · refine ⟨(img_zero ht1).mp ?_, fun h3 => by rw [← pm]; exact o h3⟩
      exact st_one i0 z ((c.zero _ 0 z.1 z.2 (by decide) (col_zero n)).trans (col_zero n).symm)
    · exact absurd rfl ne
  · rintro ⟨h0, ev⟩
    have i1 := (img_zero ht1).mpr h0
    refine .inl ⟨rfl, ⟨fun x y k l h1 h2 h3 h4 hk hl e => ?_, fun x k h1 h2 hk e => ?_⟩, fun h3 => by rw [pm]; exact ev h3⟩
    · obtain rfl : k = 0 := by omega
      obtain rfl : l = 0 := by omega
      rw [st_one ⟨h1, h3⟩ ⟨h2, h4⟩ e]
    · obtain rfl : k = 0 := by omega
      rw [st_one ⟨h1, h2⟩ z (e.trans (col_zero n).symm), i1]
      exact col_zero n
theorem fit_all {n : Nat} {ts : List Nat} (h : n = 3 ∨ n = 4) (ht : IsP (2 ^ n) ts) : Fit 1 n ts "all" ↔ EvT n ts := by
  have ht1 : IsP (2 ^ (n * 1)) ts := by rw [Nat.mul_one]; exact ht
  have pm := par_mov h ht
  constructor
  · rintro (⟨e, _⟩ | ⟨_, _, _, sg⟩)
    · exact absurd e (by decide)
    · intro h3
      rw [← pm]
      exact (sg 0 0 _ _ (by decide) (by decide) (zero_st n) (zero_st n)).2 h3
  · intro ev
    refine .inr ⟨by decide, tri_one ht1, fun e => absurd e (by decide), fun k m low other hk hm sl so => ?_⟩
    obtain rfl : k = 0 := by omega
    obtain rfl : m = 0 := by omega
    have z0 : ∀ {x}, IsSt 0 n x → x = zeroL n := fun {x} hx => List.eq_replicate_iff.mpr ⟨hx.1, fun b hb => by
      have := hx.2 b hb
      have e : (2 : Int) ^ 0 = 1 := rfl
      omega⟩
    rw [z0 sl, z0 so]
    exact ⟨rfl, fun h3 => by rw [pm]; exact ev h3⟩
theorem fit_sums {n : Nat} {ts : List Nat} (h : n = 3 ∨ n = 4) (ht : IsP (2 ^ n) ts) (f : Fit 1 n ts "sums") : Fit 1 n ts "bits" := by
  have ht1 : IsP (2 ^ (n * 1)) ts := by rw [Nat.mul_one]; exact ht
  rcases f with ⟨e, _⟩ | ⟨_, tr, db, sg⟩
  · exact absurd e (by decide)
  · have ev : EvT n ts := (fit_all h ht).mp (.inr ⟨by decide, tr, fun e => absurd e (by decide), sg⟩)
    refine (fit_bits h ht).mpr ⟨(img_zero ht1).mp ?_, ev⟩
    have z := zero_st1 n
    have i0 := img_in ht1 z.1 z.2
    have dz : ∀ x : List Int, x.length = n → dblL 1 x = zeroL n := fun x hx => List.eq_replicate_iff.mpr ⟨(dblL_len 1 x).trans hx, fun b hb => by
      unfold dblL at hb
      obtain ⟨y, _, rfl⟩ := List.mem_map.mp hb
      have e : (2 : Int) ^ 1 = 2 := rfl
      omega⟩
    have := db rfl _ z
    rw [dz _ z.1, dz _ i0.1] at this
    exact this
end HW
/-! Own layer, part Ti: the ways of some places, and the tables that store them. -/
namespace HW
open PySem PySem.Spec PyProof.Rows L2 RZ
def storeL (zs : List (Nat × Nat)) (t : List Nat) : List Nat := zs.foldl (fun t z => t.set z.1 z.2) t
def tabW (n : Nat) (ps gs : List Nat) : List Nat := storeL (ps.zip gs) (List.range (2 ^ n))
theorem getD_setN {l : List Nat} {i k x : Nat} (h : i < l.length) : (l.set i x).getD k 0 = if k = i then x else l.getD k 0 := by
  rw [List.getD_eq_getElem?_getD, List.getD_eq_getElem?_getD]
  by_cases z : k = i
  · rw [z, if_pos rfl, List.getElem?_set_self h]
    rfl
  · rw [if_neg z, List.getElem?_set_ne (fun q => z q.symm)]
structure Way (N s0 s1 s2 s3 a b c d : Nat) : Prop where
  lt : s0 < N ∧ s1 < N ∧ s2 < N ∧ s3 < N
  ne : s0 ≠ s1 ∧ s0 ≠ s2 ∧ s0 ≠ s3 ∧ s1 ≠ s2 ∧ s1 ≠ s3 ∧ s2 ≠ s3
  own : a ≠ b ∧ a ≠ c ∧ a ≠ d ∧ b ≠ c ∧ b ≠ d ∧ c ≠ d
  mem : (a = s0 ∨ a = s1 ∨ a = s2 ∨ a = s3) ∧ (b = s0 ∨ b = s1 ∨ b = s2 ∨ b = s3) ∧ (c = s0 ∨ c = s1 ∨ c = s2 ∨ c = s3) ∧ (d = s0 ∨ d = s1 ∨ d = s2 ∨ d = s3)
section
variable {n s0 s1 s2 s3 a b c d : Nat}
theorem tab4_len : (tabW n [s0, s1, s2, s3] [a, b, c, d]).length = 2 ^ n := by
  show ((((List.range (2 ^ n)).set s0 a).set s1 b).set s2 c |>.set s3 d).length = _
  simp
theorem tab4_get (h : Way (2 ^ n) s0 s1 s2 s3 a b c d) {k : Nat} (hk : k < 2 ^ n) : (tabW n [s0, s1, s2, s3] [a, b, c, d]).getD k 0 = if k = s3 then d else if k = s2 then c else if k = s1 then b else if k = s0 then a else k := by
  show ((((List.range (2 ^ n)).set s0 a).set s1 b).set s2 c |>.set s3 d).getD k 0 = _
  obtain ⟨h0, h1, h2, h3⟩ := h.lt
  rw [getD_setN (by simpa using h3), getD_setN (by simpa using h2), getD_setN (by simpa using h1), getD_setN (by simpa using h0)]
  rw [List.getD_eq_getElem?_getD (l := List.range _), List.getElem?_range hk]
  rfl
theorem tab4_isP (h : Way (2 ^ n) s0 s1 s2 s3 a b c d) : IsP (2 ^ n) (tabW n [s0, s1, s2, s3] [a, b, c, d]) := by
  have len : (tabW n [s0, s1, s2, s3] [a, b, c, d]).length = 2 ^ n := tab4_len
  have e : tabW n [s0, s1, s2, s3] [a, b, c, d] = (List.range (2 ^ n)).map fun k => if k = s3 then d else if k = s2 then c else if k = s1 then b else if k = s0 then a else k := by
    refine ext_getD (by rw [len, List.length_map, List.length_range]) fun i hi => ?_
    rw [len] at hi
    rw [tab4_get h hi, List.getD_eq_getElem?_getD (l := (List.range _).map _), List.getElem?_map, List.getElem?_range hi]
    rfl
  obtain ⟨l0, l1, l2, l3⟩ := h.lt
  obtain ⟨n1, n2, n3, n4, n5, n6⟩ := h.ne
  obtain ⟨o1, o2, o3, o4, o5, o6⟩ := h.own
  obtain ⟨m1, m2, m3, m4⟩ := h.mem
  refine ⟨len, ?_, fun x hx => ?_⟩
  · rw [e]
    have hm : ∀ x, (x = a ∨ x = b ∨ x = c ∨ x = d) → (x = s0 ∨ x = s1 ∨ x = s2 ∨ x = s3) := fun x hx => by
      rcases hx with rfl | rfl | rfl | rfl
      · exact m1
      · exact m2
      · exact m3
      · exact m4
    clear m1 m2 m3 m4
    refine nodup_map_of fun i j hi hj q => ?_
    have cl : ∀ k, (k = s3 ∧ (if k = s3 then d else if k = s2 then c else if k = s1 then b else if k = s0 then a else k) = d) ∨ (k = s2 ∧ (if k = s3 then d else if k = s2 then c else if k = s1 then b else if k = s0 then a else k) = c) ∨ (k = s1 ∧ (if k = s3 then d else if k = s2 then c else if k = s1 then b else if k = s0 then a else k) = b) ∨ (k = s0 ∧ (if k = s3 then d else if k = s2 then c else if k = s1 then b else if k = s0 then a else k) = a) ∨ (k ≠ s0 ∧ k ≠ s1 ∧ k ≠ s2 ∧ k ≠ s3 ∧ (if k = s3 then d else if k = s2 then c else if k = s1 then b else if k = s0 then a else k) = k) := fun k => by
      by_cases q3 : k = s3
      · exact .inl ⟨q3, if_pos q3⟩
      · rw [if_neg q3]
        by_cases q2 : k = s2
        · exact .inr (.inl ⟨q2, if_pos q2⟩)
        · rw [if_neg q2]
          by_cases q1 : k = s1
          · exact .inr (.inr (.inl ⟨q1, if_pos q1⟩))
          · rw [if_neg q1]
            by_cases q0 : k = s0
            · exact .inr (.inr (.inr (.inl ⟨q0, if_pos q0⟩)))
            · exact .inr (.inr (.inr (.inr ⟨q0, q1, q2, q3, if_neg q0⟩)))
    have ci := cl i
    have cj := cl j
    clear cl
    generalize (if i = s3 then d else if i = s2 then c else if i = s1 then b else if i = s0 then a else i) = fi at *
    generalize (if j = s3 then d else if j = s2 then c else if j = s1 then b else if j = s0 then a else j) = fj at *
    rcases ci with ⟨p1, p2⟩ | ⟨p1, p2⟩ | ⟨p1, p2⟩ | ⟨p1, p2⟩ | ⟨p1, p2, p3, p4, p5⟩ <;> rcases cj with ⟨r1, r2⟩ | ⟨r1, r2⟩ | ⟨r1, r2⟩ | ⟨r1, r2⟩ | ⟨r1, r2, r3, r4, r5⟩ <;> first | omega | (have := hm i (by omega); omega) | (have := hm j (by omega); omega)
  · rw [e] at hx
    obtain ⟨i, hi, rfl⟩ := List.mem_map.mp hx
    have hi := List.mem_range.mp hi
    split
    · omega
    · split
      · omega
      · split
        · omega
        · split <;> omega
theorem Way.swap (h : Way (2 ^ n) s0 s1 s2 s3 a b c d) : Way (2 ^ n) s0 s1 s2 s3 a b d c := by
  obtain ⟨o1, o2, o3, o4, o5, o6⟩ := h.own
  obtain ⟨m1, m2, m3, m4⟩ := h.mem
  exact ⟨h.lt, h.ne, ⟨o1, o3, o2, o5, o4, o6.symm⟩, m1, m2, m4, m3⟩
theorem tab4_swp (h : Way (2 ^ n) s0 s1 s2 s3 a b c d) : tabW n [s0, s1, s2, s3] [a, b, d, c] = swp (tabW n [s0, s1, s2, s3] [a, b, c, d]) s2 s3 := by
  obtain ⟨l0, l1, l2, l3⟩ := h.lt
  obtain ⟨n1, n2, n3, n4, n5, n6⟩ := h.ne
  refine ext_getD (by rw [swp_len, tab4_len, tab4_len]) fun k hk => ?_
  rw [tab4_len] at hk
  rw [swp_get (by rw [tab4_len]; exact l2) (by rw [tab4_len]; exact l3), tab4_get h.swap hk, tab4_get h hk, tab4_get h l2, tab4_get h l3]
  by_cases q3 : k = s3
  · rw [if_pos q3, if_pos q3, if_neg n6, if_pos rfl]
  · rw [if_neg q3, if_neg q3]
    by_cases q2 : k = s2
    · rw [if_pos q2, if_pos q2, if_pos rfl]
    · rw [if_neg q2, if_neg q2, if_neg q3, if_neg q2]
theorem tab4_par (h : Way (2 ^ n) s0 s1 s2 s3 a b c d) : (par (tabW n [s0, s1, s2, s3] [a, b, d, c]) + par (tabW n [s0, s1, s2, s3] [a, b, c, d])) % 2 = 1 := by
  rw [tab4_swp h]
  exact par_swp (tab4_isP h) h.ne.2.2.2.2.2 h.lt.2.2.1 h.lt.2.2.2
theorem tab4_zero (h : Way (2 ^ n) s0 s1 s2 s3 a b c d) (u1 : s0 < s1) (u2 : s1 < s2) (u3 : s2 < s3) : (tabW n [s0, s1, s2, s3] [a, b, c, d]).getD 0 0 = 0 ↔ (0 ∉ [s0, s1, s2, s3] ∨ a = 0) := by
  have : 0 < 2 ^ n := Nat.two_pow_pos n
  rw [tab4_get h this, if_neg (by omega), if_neg (by omega), if_neg (by omega)]
  by_cases q : 0 = s0
  · rw [if_pos q]
    refine ⟨.inr, fun z => z.elim (fun z => absurd (by rw [q]; exact List.mem_cons_self) z) id⟩
  · rw [if_neg q]
    refine ⟨fun _ => .inl ?_, fun _ => rfl⟩
    simp only [List.mem_cons, List.not_mem_nil, or_false, not_or]
    omega
end
/-! ### the ways -/
def stepW (ps : List Nat) (found : List (List Nat)) : List (List Nat) := found.flatMap fun a => (ps.filter fun x => !decide (x ∈ a)).map fun x => a ++ [x]
def waysN (ps : List Nat) : Nat → List (List Nat)
  | 0 => [[]]
  | k + 1 => stepW ps (waysN ps k)
def pairW (q : Nat × Nat × Nat × Nat) : List (List Nat) := [[q.1, q.2.1, q.2.2.1, q.2.2.2], [q.1, q.2.1, q.2.2.2, q.2.2.1]]
def quads (s0 s1 s2 s3 : Nat) : List (Nat × Nat × Nat × Nat) := [(s0, s1, s2, s3), (s0, s2, s1, s3), (s0, s3, s1, s2), (s1, s0, s2, s3), (s1, s2, s0, s3), (s1, s3, s0, s2), (s2, s0, s1, s3), (s2, s1, s0, s3), (s2, s3, s0, s1), (s3, s0, s1, s2), (s3, s1, s0, s2), (s3, s2, s0, s1)]
theorem ways4 {s0 s1 s2 s3 : Nat} (h1 : s0 < s1) (h2 : s1 < s2) (h3 : s2 < s3) : waysN [s0, s1, s2, s3] 4 = (quads s0 s1 s2 s3).flatMap pairW := by
  have a1 : s0 ≠ s1 := by omega
  have a2 : s0 ≠ s2 := by omega
  have a3 : s0 ≠ s3 := by omega
  have a4 : s1 ≠ s2 := by omega
  have a5 : s1 ≠ s3 := by omega
  have a6 : s2 ≠ s3 := by omega
  simp [waysN, stepW, quads, pairW, List.flatMap_cons, List.filter_cons, a1, a2, a3, a4, a5, a6, a1.symm, a2.symm, a3.symm, a4.symm, a5.symm, a6.symm]
theorem quads_way {N s0 s1 s2 s3 : Nat} (h1 : s0 < s1) (h2 : s1 < s2) (h3 : s2 < s3) (h : s3 < N) {q : Nat × Nat × Nat × Nat} (hq : q ∈ quads s0 s1 s2 s3) : Way N s0 s1 s2 s3 q.1 q.2.1 q.2.2.1 q.2.2.2 := by
  unfold quads at hq
  simp only [List.mem_cons, List.not_mem_nil, or_false] at hq
  rcases hq with rfl | rfl | rfl | rfl | rfl | rfl | rfl | rfl | rfl | rfl | rfl | rfl <;> exact ⟨by omega, by omega, by first | omega | (dsimp only; omega), by first | omega | (dsimp only; omega)⟩
theorem ways_way {N s0 s1 s2 s3 : Nat} (h1 : s0 < s1) (h2 : s1 < s2) (h3 : s2 < s3) (h : s3 < N) (hN : ∃ n, N = 2 ^ n) {o : List Nat} (ho : o ∈ waysN [s0, s1, s2, s3] 4) : ∃ a b c d, o = [a, b, c, d] ∧ Way N s0 s1 s2 s3 a b c d := by
  obtain ⟨n, rfl⟩ := hN
  rw [ways4 h1 h2 h3] at ho
  obtain ⟨q, hq, ho⟩ := List.mem_flatMap.mp ho
  have w := quads_way h1 h2 h3 h hq
  unfold pairW at ho
  simp only [List.mem_cons, List.not_mem_nil, or_false] at ho
  rcases ho with rfl | rfl
  · exact ⟨_, _, _, _, rfl, w⟩
  · exact ⟨_, _, _, _, rfl, w.swap⟩
def leafB (ps : List Nat) (o : List Nat) : Bool := decide (0 ∉ ps) || decide (o.getD 0 0 = 0)
def evB (n : Nat) (ts : List Nat) : Bool := decide (3 < n → par ts = 0)
def cntL (n : Nat) (ps : List Nat) (ws : List (List Nat)) : Nat := (ws.filter fun o => leafB ps o && evB n (tabW n ps o)).length
def cntN (n : Nat) (ps : List Nat) (ws : List (List Nat)) : Nat := (ws.filter fun o => !leafB ps o && evB n (tabW n ps o)).length
def leaves (ps : List Nat) (ws : List (List Nat)) : List (List Nat) := ws.filter (leafB ps)
theorem leaves_le (ps : List Nat) (ws : List (List Nat)) : (leaves ps ws).length ≤ ws.length := List.length_filter_le _ _
theorem cnt_pairs {n : Nat} {ps : List Nat} (hn : 3 < n) : ∀ (L : List (Nat × Nat × Nat × Nat)), (∀ q ∈ L, (par (tabW n ps [q.1, q.2.1, q.2.2.2, q.2.2.1]) + par (tabW n ps [q.1, q.2.1, q.2.2.1, q.2.2.2])) % 2 = 1) →
    cntL n ps (L.flatMap pairW) * 2 = (leaves ps (L.flatMap pairW)).length ∧ cntN n ps (L.flatMap pairW) * 2 + (leaves ps (L.flatMap pairW)).length = (L.flatMap pairW).length
  | [], _ => ⟨rfl, rfl⟩
  | q :: L, h => by
    obtain ⟨ih1, ih2⟩ := cnt_pairs hn L fun x hx => h x (List.mem_cons_of_mem _ hx)
    have hq := h q List.mem_cons_self
    have p1 := par_lt (tabW n ps [q.1, q.2.1, q.2.2.2, q.2.2.1])
    have p2 := par_lt (tabW n ps [q.1, q.2.1, q.2.2.1, q.2.2.2])
    unfold cntL cntN leaves at *
    rw [List.flatMap_cons]
    unfold pairW
    have l1 : leafB ps [q.1, q.2.1, q.2.2.1, q.2.2.2] = leafB ps [q.1, q.2.1, q.2.2.2, q.2.2.1] := rfl
    have e1 : evB n (tabW n ps [q.1, q.2.1, q.2.2.1, q.2.2.2]) = !evB n (tabW n ps [q.1, q.2.1, q.2.2.2, q.2.2.1]) := by
      unfold evB
      by_cases z : par (tabW n ps [q.1, q.2.1, q.2.2.2, q.2.2.1]) = 0
      · have t1 : decide (3 < n → par (tabW n ps [q.1, q.2.1, q.2.2.2, q.2.2.1]) = 0) = true := decide_eq_true fun _ => z
        have t2 : decide (3 < n → par (tabW n ps [q.1, q.2.1, q.2.2.1, q.2.2.2]) = 0) = false := decide_eq_false fun w => by have := w hn; omega
        rw [t1, t2]
        rfl
      · have t1 : decide (3 < n → par (tabW n ps [q.1, q.2.1, q.2.2.2, q.2.2.1]) = 0) = false := decide_eq_false fun w => z (w hn)
        have t2 : decide (3 < n → par (tabW n ps [q.1, q.2.1, q.2.2.1, q.2.2.2]) = 0) = true := decide_eq_true fun _ => by omega
        rw [t1, t2]
        rfl
    simp only [List.cons_append, List.nil_append, List.filter_cons, l1, e1]
    unfold pairW at ih1 ih2
    cases leafB ps [q.1, q.2.1, q.2.2.2, q.2.2.1] <;> cases evB n (tabW n ps [q.1, q.2.1, q.2.2.2, q.2.2.1]) <;> simp only [Bool.not_true, Bool.not_false, Bool.and_true, Bool.and_false, Bool.true_and, Bool.false_and, if_true, if_false, Bool.false_eq_true, List.length_cons] <;> omega
/-- so many of each are due -/
theorem cnt_due {n s0 s1 s2 s3 : Nat} (hn : n = 3 ∨ n = 4) (h1 : s0 < s1) (h2 : s1 < s2) (h3 : s2 < s3) (h : s3 < 2 ^ n) :
    cntL n [s0, s1, s2, s3] (waysN [s0, s1, s2, s3] 4) = (leaves [s0, s1, s2, s3] (waysN [s0, s1, s2, s3] 4)).length / (if n = 3 then 1 else 2) ∧
    cntN n [s0, s1, s2, s3] (waysN [s0, s1, s2, s3] 4) = ((waysN [s0, s1, s2, s3] 4).length - (leaves [s0, s1, s2, s3] (waysN [s0, s1, s2, s3] 4)).length) / (if n = 3 then 1 else 2) := by
  rcases hn with rfl | rfl
  · rw [if_pos rfl, Nat.div_one, Nat.div_one]
    generalize waysN [s0, s1, s2, s3] 4 = W
    have ev : ∀ ts, evB 3 ts = true := fun ts => decide_eq_true fun z => absurd z (by decide)
    unfold cntL cntN leaves
    simp only [ev, Bool.and_true]
    refine ⟨trivial, ?_⟩
    induction W with
    | nil => rfl
    | cons x W ih =>
      have le := List.length_filter_le (leafB [s0, s1, s2, s3]) W
      rw [List.filter_cons, List.filter_cons]
      cases leafB [s0, s1, s2, s3] x <;> simp only [Bool.not_true, Bool.not_false, if_true, if_false, Bool.false_eq_true, List.length_cons] <;> omega
  · rw [if_neg (by decide), ways4 h1 h2 h3]
    obtain ⟨q1, q2⟩ := cnt_pairs (n := 4) (ps := [s0, s1, s2, s3]) (by decide) (quads s0 s1 s2 s3) fun q hq => tab4_par (quads_way h1 h2 h3 h hq)
    omega
end HW
/-! Own layer, part Tj: written dicts of two plain values. -/
namespace HW
open PySem PySem.Spec PyProof.Rows L2 RZ
section
variable {X : Cx} {Ff : Addr → Prop} {S : Sta} {D : AE}
/-- {a: e, b: f} -/
theorem dx_dispI2 {v1 v2 : Expr} {s1 s2 : Str} {k1 k2 : Nat} {p1 p2 pos : Pos} {R1 R2 : Ab → Prop} {U : Sta → Ab → Prop} (ne : s1 ≠ s2) (h1 : ∀ M', DE X S.rs M' S.ρ v1 R1) (h : ∀ M', DE X S.rs M' S.ρ v2 R2)
    (k : ∀ q a b, R1 a → R2 b → U ⟨S.rs, ⟨q, true, .dct [(.inr s1, a), (.inr s2, b)]⟩ :: S.M, S.ρ⟩ (.at q)) :
    DX X Ff S (.Dict [some (.Constant (.str s1) k1 p1), some (.Constant (.str s2) k2 p2)] [v1, v2] pos) U := fun G0 H0 => by
  have hv1 : PE X v1 (fun σ H Q => ∃ M', tD X.K S.rs M' S.ρ R1 σ H Q) := ⟨fun pins s σ H Q I ⟨M', q⟩ => (h1 M').run pins s σ H Q I q⟩
  have hv2 : PE X v2 (fun σ H Q => ∃ M', tD X.K S.rs M' S.ρ R2 σ H Q) := ⟨fun pins s σ H Q I ⟨M', q⟩ => (h M').run pins s σ H Q I q⟩
  refine pe_weak (pe_disp (pps_cons pe_str hv1 (pps_cons pe_str hv2 pps_nil)) rfl rfl (by simp) (by show 2 ≤ 15; decide)) fun σ H Q ⟨G, s, kk⟩ p hp => ?_
  have n1 := Nxt.newM (o := .dK []) s.ok hp
  have st1 := s.pushM (mo := .dct []) n1 ⟨[], upd_same, rfl, trivial⟩ (s.ok.gnone hp) hp
  refine ⟨_, G, st1.loc, st1.ok, fun v0 a0 G2 H2 ra0 rep0 n2 => ?_⟩
  have st2 := st1.nxt n2
  refine ⟨_, G2, st2.loc, st2.ok, fun v a G3 H3 ra rep n3 => ?_⟩
  have st3 := st2.nxt n3
  obtain ⟨_, _, vs, e1, e2, _⟩ := st3.ok.m ⟨p, true, .dct []⟩ List.mem_cons_self
  have evs : vs = [] := List.map_eq_nil_iff.mp e2
  subst evs
  have ems : mergeK [] [(Sum.inr s1, v0), (Sum.inr s2, v)] = [(Sum.inr s1, v0), (Sum.inr s2, v)] := by
    unfold mergeK
    simp only [List.foldl_cons, List.foldl_nil]
    unfold putK
    have e : ¬ ((Sum.inr s1 : Key) = Sum.inr s2) := fun z => ne (Sum.inr.inj z)
    simp [e]
  refine ⟨e1, [(Sum.inr s1, v0), (Sum.inr s2, v)], rfl, by show 2 ≤ 15; decide, ?_⟩
  rw [ems]
  exact kk ⟨S.rs, ⟨p, true, .dct [(.inr s1, a0), (.inr s2, a)]⟩ :: S.M, S.ρ⟩ (.ref p) (.at p) G3 _ (k p a0 a ra0 ra) rfl (st3.chg (k := 0) (o' := .dct [(.inr s1, a0), (.inr s2, a)]) rfl ⟨_, upd_same, rfl, rep0.same n3.g, rep, trivial⟩) (n2.g.trans n3.g)
end
end HW
/-! Own layer, part Tk: what is written in the text and read by the defs: tuples; the one table. -/
namespace HW
open PySem PySem.Spec PyProof.Rows L2 RZ
section
variable {K : PySem.W.Frag} {mg : Str → Option Value} {G : Hp}
theorem sqT_lit {a : Addr} {d : Option Addr} {its : Array Value} {n : Nat} {sl : Array (Option Value)} {xs : List V} (l : K.lookup a = some ⟨.type "tuple", d, .seq its n, sl⟩) (hs : its.size ≤ sizeLine) (v : Vals xs its.toList) : SqT K G a xs :=
  .inr ⟨_, its, n, l, rfl, rfl, hs, v⟩
theorem gl_nought {a b c d : Addr} {t1 t2 : Nat} {o1 o2 o3 o4 : Option Addr} {n1 n2 n3 n4 : Nat} {s1 s2 s3 s4 : Array (Option Value)} (e : mg "NOUGHT_ROW" = some (.ref a)) (la : K.lookup a = some ⟨.type "tuple", o1, .seq #[.ref b, .ref c, .ref d] n1, s1⟩)
    (lb : K.lookup b = some ⟨.type "tuple", o2, .seq #[.int 0 t1] n2, s2⟩) (lc : K.lookup c = some ⟨.type "tuple", o3, .seq #[.int 0 t2] n3, s3⟩) (ld : K.lookup d = some ⟨.type "tuple", o4, .seq #[] n4, s4⟩) : GlD K mg "NOUGHT_ROW" (rowD noughtT) :=
  ⟨a, e, fun G => .tup (xs := [.ref b, .ref c, .ref d]) (sqT_lit la (by show 3 ≤ sizeLine; decide) (.cons rfl (.cons rfl (.cons rfl .nil)))) (.cons (.tup (xs := [.int 0]) (sqT_lit lb (by show 1 ≤ sizeLine; decide) (.cons ⟨t1, rfl⟩ .nil)) (.cons (.int 0) .nil)) (.cons (.tup (xs := [.int 0]) (sqT_lit lc (by show 1 ≤ sizeLine; decide) (.cons ⟨t2, rfl⟩ .nil)) (.cons (.int 0) .nil)) (.cons (.tup (xs := []) (sqT_lit ld (by decide) .nil) .nil) .nil)))⟩
theorem gl_langs {a : Addr} {t1 t2 t3 : Nat} {o1 : Option Addr} {n1 : Nat} {s1 : Array (Option Value)} {x y z : Str} (e : mg "LANGUAGES" = some (.ref a)) (la : K.lookup a = some ⟨.type "tuple", o1, .seq #[.str x t1, .str y t2, .str z t3] n1, s1⟩) : GlD K mg "LANGUAGES" (.tuple [.str x, .str y, .str z]) :=
  ⟨a, e, fun G => .tup (xs := [.str x, .str y, .str z]) (sqT_lit la (by show 3 ≤ sizeLine; decide) (.cons ⟨t1, rfl⟩ (.cons ⟨t2, rfl⟩ (.cons ⟨t3, rfl⟩ .nil)))) (.cons (.str x) (.cons (.str y) (.cons (.str z) .nil)))⟩
theorem tabsIn_one {q : Program} {x : Str} {f c P : Addr} {fd : FuncData} {cl cc : Value} {d1 d2 : Option Addr} {s1 s2 : Array (Option Value)} {vs : Array Value} (hr : ((recsOf q).find? (fun e => e.name == x)).isSome = true) (e : PySem.W.nsIn K mainGlobals x = some (some (.ref f)))
    (l : K.lookup f = some ⟨cl, d1, .func fd, s1⟩) (hc : fd.code = .ref c) (lc : K.lookup c = some ⟨cc, d2, .fields vs, s2⟩) (hP : vs[11]? = some (.ref P)) (hN : K.lookup P = none) : TabsIn q K [(x, c, P)] := fun y hy => by
  rw [List.mem_singleton.mp hy]
  refine ⟨Option.isSome_iff_exists.mp hr, ?_, hN⟩
  unfold PySem.W.tabIn
  simp only [e, l, hc, lc, hP]
theorem start_tab {H : Hp} {x : Str} {c P : Addr} {q : Str} (h : ∀ p ∈ ([(x, c, P)] : List (Str × Addr × Addr)).map (·.2), H p.2 = some (.tbl #[])) : ∀ p ∈ ([(P, q)] : TabL), H p.1 = some (.tbl #[]) := fun p hp => by
  rw [List.mem_singleton.mp hp]
  exact h (c, P) (by simp)
end
/-- where one def makes a lambda -/
theorem walk_one {l : PySem.W.OpenLaw} {n k : Nat} {q : Program} {loose : List Str} {XP : (Str → Option Value) → Heap → Prop} {YP : World → Heap → Prop} {d : DefRec} {K : Params → PySem.W.Frag} {tc Pt : Addr} (y qn : Str)
    (hn : l.most = some n) (hn2 : n ≤ 63) (hdf : d.params.defaults = []) (hr : Room k callerA) (hY : ∀ (w : World) (h : Heap), YP w h → (K w.params).In h) (hx : ∀ w : World, TabsIn q (K w.params) [(y, tc, Pt)])
    (F : ∀ (w : World) (mg : Str → Option Value) (fa : Addr) (h : Heap), (K w.params).In h → h.Ns mainGlobals mg → mg d.name = some (.ref fa) →
      ∃ fd : FuncData, (∀ (s : Shared) (u : Value), BindsTo s fd ⟨[u], []⟩ [("script", u)]) ∧ ∀ base : Heap, (K w.params).In base → base.Ns mainGlobals mg → (∀ p ∈ ([(y, tc, Pt)] : List (Str × Addr × Addr)).map (·.2), LamX.TabB base mg p.1 p.2) → FnG l.prog w (K w.params) mg base CX0 k fa fd ["script"] (Spec (K w.params) (S_lawT (K w.params) [(Pt, qn)]))) :
    PySem.W.WalkO q loose XP YP l.row.toRowW d [] (fun f vs => PySem.call f vs) :=
  walk_ofGT (CX := fun _ => CX0) (sp := fun w => Spec (K w.params) (S_lawT (K w.params) [(Pt, qn)])) [(y, tc, Pt)] hn (Nat.le_trans hn2 (by decide)) hdf hr hY hx F (fun _ H a ns hl hT hS => law_startT (Nat.le_trans hl hn2) (start_tab hT) hS) (fun _ _ _ _ _ h => h)
end HW
/-! Own layer, part Tl: isinstance of data; d.get(k, x) of our own dicts; how many unlike numbers. -/
namespace HW
open PySem PySem.Spec PyProof.Rows L2 RZ
def tyD : PyData → String
  | .bool _ => "bool"
  | .int _ => "int"
  | .str _ => "str"
  | .list _ => "list"
  | .tuple _ => "tuple"
  | _ => "NoneType"
theorem dp_ty {K : PySem.W.Frag} {G H : Hp} (gh : Same G H) {v : V} {d : PyData} (r : Dp K G v d) : TyX K H v (.type (tyD d)) := by
  cases r with
  | non => exact .base .non
  | bl b => exact .base (.bl b)
  | int i => exact .base (.int i)
  | str x => exact .base (.str x)
  | lst h _ => exact .base (.lst (gh _ _ h))
  | tup h _ =>
    rcases sqT_same gh h with (h | ⟨o, h⟩) | ⟨o, its, n, l, c, _⟩
    · exact .base (.tup h)
    · exact .fTuple h
    · exact .kTuple l c
section
variable {X : Cx} {rs : Rs} {M : Mem} {ρ : List (Option Ab)} {a b e f o : Expr} {p p2 q pos apos : Pos} {i : Int} {Ra : Ab → Prop}
/-- isinstance(e, T), T a built-in type -/
theorem de_isi {T : String} {x : Str} {c : Bool} {Ra : Ab → Prop} (hm : X.mg "isinstance" = none) (hm2 : X.mg x = none) (hv : bootBuiltins x = some (.type T)) (ha : DE X rs M ρ e Ra) (h : ∀ y, Ra y → ∃ d, y = .d d ∧ kitB (tyD d) T = some c) (hg : Gl X "isinstance" := by rfl) (hg2 : Gl X x := by rfl) (hn : x ≠ "__name__" := by decide) (hdb : (x == ("__debug__" : Str)) = false := by decide)
    (he : starEach [e, .Name x p2] X.env = (false, eval e X.env) :: starEach [.Name x p2] X.env := by rfl) (he2 : starEach [Expr.Name x p2] X.env = (false, eval (.Name x p2) X.env) :: starEach [] X.env := by rfl) (hpl : (backTo pos (starEach [Expr.Name x p2] X.env)).any (·.1) = false := by rfl) :
    DE X rs M ρ (.Call (.Name "isinstance" p) [e, .Name x p2] [] pos) (Is (aB c)) :=
  pe_weak (pe_callB call_isi hg hm (by decide +kernel) (pa_cons ha (pa_cons (pe_bltn (v := .ty T) hg2 hm2 hv rfl hn hdb) pa_nil he2) he) (by decide) (by decide) he hpl) fun σ H Q ⟨G, l, ok, k⟩ => ⟨G, l, ok, fun v y G1 H1 ry rep n => by
    obtain ⟨d, rfl, hc⟩ := h y ry
    exact ⟨v, .ty T, _, _, c, rfl, .ty T, dp_ty (ok.nxt n).gh rep, kit_ty hc, k _ _ G1 H1 rfl (Dp.bl c) n⟩⟩
end
section
variable {X : Cx} {rs : Rs} {M : Mem} {ρ : List (Option Ab)} {o i e f : Expr} {pos apos p : Pos} {yf : Ab} {q : Addr} {b : Bool} {kvs : List (Key × Ab)} {ky : Key}
theorem val_none {K : PySem.W.Frag} {G : Hp} {k : Key} : ∀ {vs : List (Key × V)} {kvs : List (Key × Ab)}, vs.map (·.1) = kvs.map (·.1) → valA kvs k = none → valV vs k = none
  | [], [], _, _ => rfl
  | p :: vs, q :: kvs, e, h => by
    rw [List.map_cons, List.map_cons] at e
    obtain ⟨e1, e2⟩ := List.cons.inj e
    unfold valA at h
    unfold valV
    rw [List.find?_cons] at h ⊢
    by_cases z : q.1 = k
    · rw [show decide (q.1 = k) = true from decide_eq_true z] at h
      cases h
    · rw [show decide (q.1 = k) = false from decide_eq_false z] at h
      rw [e1, show decide (q.1 = k) = false from decide_eq_false z]
      exact val_none (K := K) (G := G) e2 h
/-- d.get(k, x) -/
theorem de_dgetD (hu : X.A.units + 64 < cLine) (ho : DE X rs M ρ o (Is (.at q))) (hM : (⟨q, b, .dct kvs⟩ : Me) ∈ M) (hi : DE X rs M ρ e (Is (kA ky))) (hf : DE X rs M ρ f (Is yf)) (m : M2 X o "get" apos e f pos) : DE X rs M ρ (.Call (.Attribute o "get" apos) [e, f] [] pos) (Is ((valA kvs ky).getD yf)) :=
  pe_weak (pe_dget2 (by omega) ho hi hf m) fun σ H Q ⟨G, l, ok, kk⟩ => tD_go l ok fun v z G1 H1 rz rep1 l1 ok1 n1 => by
    subst rz
    have rep1 : v = .ref q := rep1
    subst rep1
    obtain ⟨_, _, vs, e1, e2, ra⟩ := ok1.m _ hM
    refine ⟨q, rfl, .inl ⟨vs, .inl e1⟩, G1, l1, ok1, fun y c G2 H2 rc rep2 n2 => ?_⟩
    subst rc
    have ok2 := ok1.nxt n2
    refine ⟨G2, l1.same n2.g, ok2, fun z c2 G3 H3 rc2 rep3 n3 => ?_⟩
    subst rc2
    have ok3 := ok2.nxt n3
    obtain ⟨_, _, vs3, e3, e4, ra3⟩ := ok3.m _ hM
    have n13 := (n1.trans n2 ok).trans n3 ok
    refine ⟨valV vs3 ky, by rw [rep_key rep2]; exact DGet.k e3, ?_⟩
    cases hv : valA kvs ky with
    | none =>
      rw [val_none (K := X.K) (G := G3) e4 hv]
      exact kk z _ G3 H3 (by rw [hv]; rfl) rep3 n13
    | some y =>
      obtain ⟨v', h1, h2⟩ := val_get e4 ra3 hv
      rw [h1]
      exact kk v' _ G3 H3 (by rw [hv]; rfl) h2 n13
end
end HW
/-! Own layer, part Tm: how many unlike numbers stand in a list; dicts handed back; written dicts of one number. -/
namespace HW
open PySem PySem.Spec PyProof.Rows L2 RZ
/-- as many unlike numbers -/
def manyN (ns : List Int) : Nat := (firstMet (fun i => ns.getD i 0) ns.length).length
theorem met_nodup (val : Nat → Int) : ∀ i, (firstMet val i).Nodup
  | 0 => List.nodup_nil
  | i + 1 => by
    rw [firstMet_succ]
    unfold step_dedup
    split
    · exact met_nodup val i
    · rename_i h
      refine List.nodup_append.mpr ⟨met_nodup val i, List.nodup_cons.mpr ⟨List.not_mem_nil, List.nodup_nil⟩, fun a ha b hb e => h ?_⟩
      rw [List.mem_singleton.mp hb] at e
      exact List.any_eq_true.mpr ⟨a, ha, by rw [e]; exact beq_self_eq_true _⟩
theorem met_mem {ns : List Int} {k : Int} : k ∈ firstMet (fun i => ns.getD i 0) ns.length ↔ k ∈ ns := by
  have e := firstMet_any (fun i => ns.getD i 0) ns.length k
  have el : (List.range ns.length).map (fun i => ns.getD i 0) = ns := by
    refine List.ext_getElem (by rw [List.length_map, List.length_range]) fun i h1 h2 => ?_
    rw [List.getElem_map, List.getElem_range, List.getD_eq_getElem?_getD, List.getElem?_eq_getElem h2]
    rfl
  rw [el] at e
  have an : ∀ l : List Int, l.any (· == k) = true ↔ k ∈ l := fun l => by
    rw [List.any_eq_true]
    exact ⟨fun ⟨x, hx, h⟩ => by rw [← eq_of_beq h]; exact hx, fun h => ⟨k, h, beq_self_eq_true _⟩⟩
  rw [← an, ← an, e]
theorem manyN_one {ns : List Int} : manyN ns ≤ 1 ↔ ∀ x ∈ ns, ∀ y ∈ ns, x = y := by
  unfold manyN
  have nd := met_nodup (fun i => ns.getD i 0) ns.length
  constructor
  · intro h x hx y hy
    have hx := met_mem.mpr hx
    have hy := met_mem.mpr hy
    generalize firstMet (fun i => ns.getD i 0) ns.length = l at *
    match l, h, hx, hy with
    | [a], _, hx, hy => rw [List.mem_singleton.mp hx, List.mem_singleton.mp hy]
    | [], _, hx, _ => exact absurd hx List.not_mem_nil
    | _ :: _ :: _, h, _, _ => exact absurd h (by show ¬ (_ + 1 + 1 ≤ 1); omega)
  · intro h
    have h : ∀ x ∈ firstMet (fun i => ns.getD i 0) ns.length, ∀ y ∈ firstMet (fun i => ns.getD i 0) ns.length, x = y := fun x hx y hy => h x (met_mem.mp hx) y (met_mem.mp hy)
    generalize firstMet (fun i => ns.getD i 0) ns.length = l at *
    match l, nd, h with
    | [], _, _ => exact Nat.zero_le _
    | [a], _, _ => exact Nat.le_refl _
    | a :: b :: l, nd, h => exact absurd (h a (by simp) b (by simp)) (by have := (List.nodup_cons.mp nd).1; simp at this; exact fun z => this.1 z)
theorem manyN_le (ns : List Int) : manyN ns ≤ ns.length := firstMet_length_le _ _
section
variable {X : Cx} {rs : Rs} {M : Mem} {ρ : List (Option Ab)} {a e : Expr} {p p2 q pos : Pos} {x : Ab}
/-- len(set(e)) of numbers -/
theorem de_lenSet {ns : List Int} (hc : X.calm = true) (hm : X.mg "len" = none) (hm2 : X.mg "set" = none) (ha : DE X rs M ρ e (Is (aL (ns.map .int)))) (hl : ns.length ≤ 4000) (hg : Gl X "len" := by rfl) (hg2 : Gl X "set" := by rfl)
    (na : starEach [e] X.env = (false, eval e X.env) :: starEach [] X.env := by rfl) (hp1 : ((starEach [Expr.Call (.Name "set" p2) [e] [] q] X.env)) = (false, eval (.Call (.Name "set" p2) [e] [] q) X.env) :: starEach [] X.env := by rfl) : DE X rs M ρ (.Call (.Name "len" p) [.Call (.Name "set" p2) [e] [] q] [] pos) (Is (aI (manyN ns : Nat))) := by
  refine ⟨fun pins s σ H Q I ⟨G, l, ok, k⟩ => ?_⟩
  refine Call_ (ld_blt I hg hm PySem.boot_len ?_)
  refine PyProof.Rows.callWith_builtin1 (PyProof.Rows.args_cons ?_ hp1) rfl rfl
  refine Call_ (ld_blt I hg2 hm2 PyProof.Rows.boot_set ?_)
  refine PyProof.Rows.callWith_type1 (PyProof.Rows.args_cons (thn (ha.run pins s σ H (fun v H1 => ∃ G1, Rep X.K G1 v (aL (ns.map .int)) ∧ Nxt rs G H G1 H1) I ⟨G, l, ok, fun v y G1 H1 ry rep n => by subst ry; exact ⟨G1, rep, n⟩⟩) fun v s1 ⟨v2, H1, I1, r1, G1, rep, n⟩ => PyProof.Rows.args_nil ?_) na) na rfl
  have ok1 := ok.nxt n
  have rep : Dp X.K G1 v2 (.list (ns.map .int)) := rep
  cases rep with
  | lst hx rx =>
    rw [dpAll_ints rx] at hx
    cases r1
    obtain ⟨its, r, pl, hz⟩ := I1.list (.inl (.inl (ok1.gh _ _ hx)))
    have hl2 : its.toArray.size = ns.length := by rw [List.size_toArray, ← r.length, List.length_map]
    refine call_set_list (I1.ok.hd hc) pl.isList (ns := ns) (by simpa using r.ints) (by unfold scanBound; omega) fun h' tk hS hk => ?_
    rw [hl2] at hS
    refine PyProof.Rows.args_nil ?_
    obtain ⟨o, es, ep, t, ho, hex, hd, _, _, _, hf, hn⟩ := hS
    have I2 : Inv X pins σ H1 { s1 with heap := h', toks := tk } := I1.kept fun b o e => hk b o (Heap.lt_size e) e
    have ml := manyN_le ns
    exact call_len_set ho hex hd hf (by rw [hn]; show ((manyN ns : Nat) : Int) < 2 ^ 63; omega) ⟨.int (manyN ns : Nat), H1, I2.tok _, ⟨_, by rw [hn]; rfl⟩, k _ _ G1 H1 rfl (Dp.int _) n⟩
end
/-! ### dicts handed back -/
abbrev aDct (K : PySem.W.Frag) (kvs : List (Key × Ab)) : Ab := .raw fun v G => ∃ q, v = .ref q ∧ MRep K G G q (.dct kvs)
section
variable {X : Cx} {rs : Rs} {M : Mem} {ρ : List (Option Ab)} {o i e : Expr} {pos p : Pos} {y : Ab} {q : Addr} {b : Bool} {kvs : List (Key × Ab)} {k : Key}
theorem de_dgetR (hu : X.A.units + 64 < cLine) (ho : DE X rs M ρ o (Is (aDct X.K kvs))) (hi : DE X rs M ρ i (Is (kA k))) (hv : valA kvs k = some y) (hs : NoSl i := by intro _ _; rfl) : DE X rs M ρ (.Subscript o i pos) (Is y) :=
  pe_weak (pe_dget (by omega) ho hi hs) fun σ H Q ⟨G, l, ok, kk⟩ => tD_go l ok fun v z G1 H1 rz rep1 l1 ok1 n1 => ⟨G1, l1, ok1, fun u w G2 H2 rw2 rep2 n2 => by
    subst rz rw2
    obtain ⟨G0, e0, q, eq, m⟩ := rep1
    have ok2 := ok1.nxt n2
    have g02 : Same G0 G2 := e0.trans n2.g
    obtain ⟨vs, e1, e2, ra⟩ := m.same g02 fun o h => ok2.gh _ _ (g02 _ _ h)
    obtain ⟨v', h1, h2⟩ := val_get e2 ra hv
    exact ⟨q, v', eq, by rw [← h1, rep_key rep2]; exact DGet.k e1, kk v' _ G2 H2 rfl h2 (n1.trans n2 ok)⟩⟩
end
section
variable {X : Cx} {Ff : Addr → Prop} {S : Sta} {D : AE} {p pos : Pos} {q : Addr} {kvs : List (Key × Ab)} {x : Str}
theorem ds_retOwnD {i k : Nat} (h : S.ρ[i]? = some (some (.at q))) (hM : S.M[k]? = some ⟨q, true, .dct kvs⟩) (hF : ∀ b, Ff b → S.rs.F b) (r : D.rt S.rs [] (aDct X.K kvs)) (hN : X.N[i]? = some x := by rfl)
    (hv : Vis X.env.scope x := by first | exact Or.inl rfl | exact Or.inr (Or.inl rfl) | exact Or.inr (Or.inr rfl)) (hd : (x == ("__debug__" : Str)) = false := by decide) (hcd : (x == ("__classdict__" : Str)) = false := by decide) :
    DS X Ff S (.Return (some (.Name x p)) pos) D := fun G0 H0 => ps_weak (ps_ret (pe_var (i := i) hN hv hd hcd)) fun De σ H ⟨G, s, _, rt, _⟩ => by
  obtain ⟨v, e, rep⟩ := s.loc.get h
  have rep : v = .ref q := rep
  subst rep
  refine ⟨_, e, ?_⟩
  obtain ⟨g1, nf, vs, e1, e2, e4⟩ := s.ok.m _ (List.mem_of_getElem? hM)
  have g1 : G q = none := g1
  have e1 : H q = some (.dK vs) := e1
  have h0 : H0.1 q = none := by
    rcases s.own _ (List.mem_of_getElem? hM) rfl with z | z
    · exact z
    · exact absurd (hF q z) nf
  have up : Same G (upd G q (.dK vs)) := fun b u eb => by
    rw [upd_ne (ne_of_none eb g1)]
    exact eb
  refine rt S.rs [] (.ref q) (aDct X.K kvs) (upd G q (.dK vs)) H r ⟨_, Same.refl _, q, rfl, vs, upd_same, e2, e4.same up⟩ ⟨fun b u eb => ?_, fun b f => ?_, s.ok.i, fun e he => absurd he List.not_mem_nil, fun _ _ _ _ z => by simp at z⟩ ⟨s.lie.g.trans up, s.lie.h, s.lie.al, fun b u eb => ?_⟩ (fun e he => absurd he List.not_mem_nil)
  · by_cases hb : b = q
    · subst hb
      rw [upd_same] at eb
      rw [e1, eb]
    · rw [upd_ne hb] at eb
      exact s.ok.gh _ _ eb
  · rw [upd_ne (show b ≠ q from fun z => nf (show S.rs.F q from z ▸ f))]
    exact s.ok.sep b f
  · by_cases hb : b = q
    · subst hb
      exact .inr h0
    · rw [upd_ne hb] at eb
      exact s.lie.nw _ _ eb
/-- {k: e}, k a number -/
theorem dx_dispK1 {v1 : Expr} {n1 : Int} {k1 : Nat} {p1 pos : Pos} {R1 : Ab → Prop} {U : Sta → Ab → Prop} (h1 : ∀ M', DE X S.rs M' S.ρ v1 R1)
    (k : ∀ q a, R1 a → U ⟨S.rs, ⟨q, true, .dct [(.inl n1, a)]⟩ :: S.M, S.ρ⟩ (.at q)) : DX X Ff S (.Dict [some (.Constant (.int n1) k1 p1)] [v1] pos) U := fun G0 H0 => by
  have hv1 : PE X v1 (fun σ H Q => ∃ M', tD X.K S.rs M' S.ρ R1 σ H Q) := ⟨fun pins s σ H Q I ⟨M', q⟩ => (h1 M').run pins s σ H Q I q⟩
  refine pe_weak (pe_disp (pps_cons pe_int hv1 pps_nil) rfl rfl (by simp) (by show 1 ≤ 15; decide)) fun σ H Q ⟨G, s, kk⟩ p hp => ?_
  have n1' := Nxt.newM (o := .dK []) s.ok hp
  have st1 := s.pushM (mo := .dct []) n1' ⟨[], upd_same, rfl, trivial⟩ (s.ok.gnone hp) hp
  refine ⟨_, G, st1.loc, st1.ok, fun v0 a0 G2 H2 ra0 rep0 n2 => ?_⟩
  have st2 := st1.nxt n2
  obtain ⟨_, _, vs, e1, e2, _⟩ := st2.ok.m ⟨p, true, .dct []⟩ List.mem_cons_self
  have evs : vs = [] := List.map_eq_nil_iff.mp e2
  subst evs
  have ems : mergeK [] [(Sum.inl n1, v0)] = [(Sum.inl n1, v0)] := by
    unfold mergeK
    simp only [List.foldl_cons, List.foldl_nil]
    unfold putK
    simp
  refine ⟨e1, [(Sum.inl n1, v0)], rfl, by show 1 ≤ 15; decide, ?_⟩
  rw [ems]
  exact kk ⟨S.rs, ⟨p, true, .dct [(.inl n1, a0)]⟩ :: S.M, S.ρ⟩ (.ref p) (.at p) G2 _ (k p a0 ra0) rfl (st2.chg (k := 0) (o' := .dct [(.inl n1, a0)]) rfl ⟨_, upd_same, rfl, rep0, trivial⟩) n2.g
end
end HW
/-! Own layer, part Tn: None or not, of any data; a <= b < c; in lists and tuples of numbers. -/
namespace HW
open PySem PySem.Spec PyProof.Rows L2 RZ
def isNoneB : PyData → Bool
  | .none => true
  | _ => false
theorem dp_none {K : PySem.W.Frag} {G : Hp} {v : V} {d : PyData} (h : Dp K G v d) : decide (v = .non) = isNoneB d := by
  cases h
  case non => rfl
  all_goals exact decide_eq_false fun z => nomatch z
section
variable {X : Cx} {rs : Rs} {M : Mem} {ρ : List (Option Ab)} {a b c : Expr} {p pos : Pos} {d : PyData} {i j k : Int}
theorem de_noneD {q : Nat} (ha : DE X rs M ρ a (Is (.d d))) : DE X rs M ρ (.Compare a [.Is] [.Constant .none q p] pos) (Is (aB (isNoneB d))) :=
  de_cmp op_isN ha de_non (fun y z e1 e2 => by
    subst e1 e2
    refine fun G H v u Q ok r1 r2 k => ⟨rep_non r2, ?_⟩
    rw [dp_none r1]
    exact k _ _ G H rfl (Dp.bl _) (Nxt.rfl ok)) (nomark _)
theorem de_someD {q : Nat} (ha : DE X rs M ρ a (Is (.d d))) : DE X rs M ρ (.Compare a [.IsNot] [.Constant .none q p] pos) (Is (aB (!isNoneB d))) :=
  de_cmp op_notN ha de_non (fun y z e1 e2 => by
    subst e1 e2
    refine fun G H v u Q ok r1 r2 k => ⟨rep_non r2, ?_⟩
    rw [dp_none r1]
    exact k _ _ G H rfl (Dp.bl _) (Nxt.rfl ok)) (nomark _)
theorem dt_noneD {q : Nat} (ha : DE X rs M ρ a (Is (.d d))) : DT X rs M ρ (.Compare a [.Is] [.Constant .none q p] pos) (fun c => c = isNoneB d) :=
  dt_cmp op_isN ha de_non (fun y z e1 e2 => by
    subst e1 e2
    refine fun G H v u Q ok r1 r2 k => ⟨rep_non r2, ?_⟩
    rw [dp_none r1]
    exact k _ _ G H ⟨_, rfl, rfl⟩ (Dp.bl _) (Nxt.rfl ok)) (nomark _)
theorem dt_someD {q : Nat} (ha : DE X rs M ρ a (Is (.d d))) : DT X rs M ρ (.Compare a [.IsNot] [.Constant .none q p] pos) (fun c => c = !isNoneB d) :=
  dt_cmp op_notN ha de_non (fun y z e1 e2 => by
    subst e1 e2
    refine fun G H v u Q ok r1 r2 k => ⟨rep_non r2, ?_⟩
    rw [dp_none r1]
    exact k _ _ G H ⟨_, rfl, rfl⟩ (Dp.bl _) (Nxt.rfl ok)) (nomark _)
/-- i <= j < k -/
theorem de_chain (ha : DE X rs M ρ a (Is (aI i))) (hb : DE X rs M ρ b (Is (aI j))) (hc : DE X rs M ρ c (Is (aI k))) (hl : lastMarks [.LtE, .Lt] [b, c] = false := by rfl) : DE X rs M ρ (.Compare a [.LtE, .Lt] [b, c] pos) (Is (aB (decide (i ≤ j ∧ j < k)))) :=
  pe_weak (pe_chain op_le op_lt ha hb hc hl) fun σ H Q ⟨G, l, ok, kk⟩ => tD_go l ok fun v y G1 H1 ry rep1 l1 ok1 n1 => tD_go l1 ok1 fun u z G2 H2 rz rep2 l2 ok2 n2 => by
    subst ry rz
    refine ⟨i, j, rep_int rep1, rep_int rep2, decide (i ≤ j), rfl, ?_⟩
    by_cases h : i ≤ j
    · rw [if_pos (decide_eq_true h)]
      exact tD_go l2 ok2 fun w x G3 H3 rx rep3 l3 ok3 n3 => by
        subst rx
        refine ⟨j, k, rep_int rep2, rep_int rep3, kk (.bl (decide (j < k))) (aB (decide (j < k))) G3 H3 ?_ (Dp.bl _) (n1.trans (n2.trans n3 ok1) ok)⟩
        show aB _ = aB _
        rw [show decide (j < k) = decide (i ≤ j ∧ j < k) from decide_eq_decide.mpr ⟨fun z => ⟨h, z⟩, fun z => z.2⟩]
    · rw [if_neg (by rw [decide_eq_false h]; decide)]
      refine kk (.bl false) (aB false) G2 H2 ?_ (Dp.bl _) (n1.trans n2 ok)
      show aB _ = aB _
      rw [decide_eq_false (p := i ≤ j ∧ j < k) fun z => h z.1]
theorem dt_chain (ha : DE X rs M ρ a (Is (aI i))) (hb : DE X rs M ρ b (Is (aI j))) (hc : DE X rs M ρ c (Is (aI k))) (hl : lastMarks [.LtE, .Lt] [b, c] = false := by rfl) : DT X rs M ρ (.Compare a [.LtE, .Lt] [b, c] pos) (fun t => t = decide (i ≤ j ∧ j < k)) :=
  pt_weak (pt_chain op_le op_lt ha hb hc hl) fun σ H Q ⟨G, l, ok, kk⟩ => tD_go l ok fun v y G1 H1 ry rep1 l1 ok1 n1 => tD_go l1 ok1 fun u z G2 H2 rz rep2 l2 ok2 n2 => by
    subst ry rz
    refine ⟨i, j, rep_int rep1, rep_int rep2, decide (i ≤ j), rfl, ?_⟩
    by_cases h : i ≤ j
    · rw [if_pos (decide_eq_true h)]
      exact tD_go l2 ok2 fun w x G3 H3 rx rep3 l3 ok3 n3 => by
        subst rx
        exact ⟨j, k, rep_int rep2, rep_int rep3, _, rfl, kk _ G3 H3 (decide_eq_decide.mpr ⟨fun z => ⟨h, z⟩, fun z => z.2⟩) (n1.trans (n2.trans n3 ok1) ok)⟩
    · rw [if_neg (by rw [decide_eq_false h]; decide)]
      exact ⟨false, rfl, kk false G2 H2 (decide_eq_false (p := i ≤ j ∧ j < k) fun z => h z.1).symm (n1.trans n2 ok)⟩
/-- i in [..] -/
theorem dt_inL {ws : List Int} (ha : DE X rs M ρ a (Is (aI i))) (hb : DE X rs M ρ b (Is (aL (ws.map .int)))) (hmk : behindInMarks .In b = false := by rfl) : DT X rs M ρ (.Compare a [.In] [b] pos) (fun c => c = decide (i ∈ ws)) :=
  dt_cmp op_in_seq ha hb (fun _ _ e1 e2 => by
    subst e1 e2
    refine fun G H v u Q ok r1 r2 k => ?_
    rw [rep_int r1]
    have r2 : Dp X.K G u (.list (ws.map .int)) := r2
    cases r2 with
    | lst hx rx =>
      rw [dpAll_ints rx] at hx
      refine ⟨_, _, rfl, .inl (.inl (.inl (ok.gh _ _ hx))), rfl, flat_ints ws, ?_⟩
      rw [if_neg (by decide), inV_ints]
      exact k _ _ G H ⟨_, rfl, rfl⟩ (Dp.bl _) (Nxt.rfl ok)) hmk
/-- s in (.., ..), of texts -/
theorem inV_strs (s : Str) : ∀ ss : List Str, inV (.str s) (ss.map V.str) = decide (s ∈ ss)
  | [] => by simp [inV]
  | t :: ss => by
    have ih := inV_strs s ss
    unfold inV at ih ⊢
    rw [List.map_cons, List.any_cons, ih]
    show ((t == s) || _) = _
    by_cases z : s = t
    · subst z
      simp
    · have : (t == s) = false := beq_eq_false_iff_ne.mpr fun q => z q.symm
      rw [this]
      simp [z]
theorem dt_inS {s : Str} {ss : List Str} (ha : DE X rs M ρ a (Is (aS s))) (hb : DE X rs M ρ b (Is (aT (ss.map .str)))) (hmk : behindInMarks .In b = false := by rfl) : DT X rs M ρ (.Compare a [.In] [b] pos) (fun c => c = decide (s ∈ ss)) :=
  dt_cmp op_in_seq ha hb (fun _ _ e1 e2 => by
    subst e1 e2
    refine fun G H v u Q ok r1 r2 k => ?_
    rw [rep_str r1]
    have r2 : Dp X.K G u (.tuple (ss.map .str)) := r2
    cases r2 with
    | tup st al =>
      rw [dpAll_strs al] at st
      refine ⟨_, _, rfl, .inr (sqT_same ok.gh st), rfl, flat_strs ss, ?_⟩
      rw [if_neg (by decide), inV_strs]
      exact k _ _ G H ⟨_, rfl, rfl⟩ (Dp.bl _) (Nxt.rfl ok)) hmk
theorem dt_notInS {s : Str} {ss : List Str} (ha : DE X rs M ρ a (Is (aS s))) (hb : DE X rs M ρ b (Is (aT (ss.map .str)))) (hmk : behindInMarks .NotIn b = false := by rfl) : DT X rs M ρ (.Compare a [.NotIn] [b] pos) (fun c => c = !decide (s ∈ ss)) :=
  dt_cmp op_notIn_seq ha hb (fun _ _ e1 e2 => by
    subst e1 e2
    refine fun G H v u Q ok r1 r2 k => ?_
    rw [rep_str r1]
    have r2 : Dp X.K G u (.tuple (ss.map .str)) := r2
    cases r2 with
    | tup st al =>
      rw [dpAll_strs al] at st
      refine ⟨_, _, rfl, .inr (sqT_same ok.gh st), rfl, flat_strs ss, ?_⟩
      rw [if_pos rfl, inV_strs]
      exact k _ _ G H ⟨_, rfl, rfl⟩ (Dp.bl _) (Nxt.rfl ok)) hmk
theorem dt_inSL {s : Str} {ss : List Str} (ha : DE X rs M ρ a (Is (aS s))) (hb : DE X rs M ρ b (Is (aL (ss.map .str)))) (hmk : behindInMarks .In b = false := by rfl) : DT X rs M ρ (.Compare a [.In] [b] pos) (fun c => c = decide (s ∈ ss)) :=
  dt_cmp op_in_seq ha hb (fun _ _ e1 e2 => by
    subst e1 e2
    refine fun G H v u Q ok r1 r2 k => ?_
    rw [rep_str r1]
    have r2 : Dp X.K G u (.list (ss.map .str)) := r2
    cases r2 with
    | lst hx rx =>
      rw [dpAll_strs rx] at hx
      refine ⟨_, _, rfl, .inl (.inl (.inl (ok.gh _ _ hx))), rfl, flat_strs ss, ?_⟩
      rw [if_neg (by decide), inV_strs]
      exact k _ _ G H ⟨_, rfl, rfl⟩ (Dp.bl _) (Nxt.rfl ok)) hmk
end
end HW
/-! Own layer, part To: data in a tuple of data; bools compared; shapes of data. -/
namespace HW
open PySem PySem.Spec PyProof.Rows L2 RZ
def Flt (k : Nat) (d : PyData) : Prop := d.canLay0 = true ∧ d.depth ≤ k
theorem flt_int (i : Int) (k : Nat) : Flt k (.int i) := ⟨by simp [PyData.canLay0], by simp [PyData.depth]⟩
theorem flt_str {s : Str} (k : Nat) (h : (PyData.str s).canLay0 = true := by decide +kernel) : Flt k (.str s) := ⟨h, by simp [PyData.depth]⟩
theorem flt_all {k : Nat} : ∀ {ds : List PyData}, (∀ d ∈ ds, Flt k d) → PyData.canLayAll0 ds = true ∧ PyData.depthAll ds ≤ k
  | [], _ => ⟨by simp [PyData.canLayAll0], by simp [PyData.depthAll]⟩
  | d :: ds, h => by
    obtain ⟨h1, h2⟩ := flt_all fun x hx => h x (List.mem_cons_of_mem _ hx)
    obtain ⟨a1, a2⟩ := h d List.mem_cons_self
    simp only [PyData.canLayAll0, PyData.depthAll, a1, h1]
    exact ⟨rfl, by omega⟩
theorem flt_tup {k : Nat} {ds : List PyData} (h : ∀ d ∈ ds, Flt k d) : Flt (k + 1) (.tuple ds) := by
  obtain ⟨h1, h2⟩ := flt_all h
  unfold Flt
  simp only [PyData.canLay0, PyData.depth, h1]
  exact ⟨trivial, by omega⟩
theorem flt_list {k : Nat} {ds : List PyData} (h : ∀ d ∈ ds, Flt k d) : Flt (k + 1) (.list ds) := by
  obtain ⟨h1, h2⟩ := flt_all h
  unfold Flt
  simp only [PyData.canLay0, PyData.depth, h1]
  exact ⟨trivial, by omega⟩
theorem Flt.mono {k l : Nat} {d : PyData} (h : Flt k d) (e : k ≤ l) : Flt l d := ⟨h.1, Nat.le_trans h.2 e⟩
theorem flt_sD (x : List Int) (k : Nat) : Flt (k + 1) (sD x) := (flt_tup (k := 0) fun d hd => by
  obtain ⟨i, _, rfl⟩ := List.mem_map.mp hd
  exact flt_int i 0).mono (by omega)
theorem Flt.shaped {k : Nat} {d : PyData} (h : Flt k d) (hk : k ≤ 64 := by decide) : SeqAt.shaped d = true := by
  unfold SeqAt.shaped
  rw [h.1, decide_eq_true (Nat.le_trans h.2 hk)]
  rfl
def rInDT (K : PySem.W.Frag) : R2 := fun x y H Q => ∃ d ds, L2.Dp K H x d ∧ L2.Dp K H y (.tuple ds) ∧ Flt 60 d ∧ Flt 60 (.tuple ds) ∧ Q (.bl (ds.any fun z => PyData.eqv z d)) H
section
variable {X : Cx}
theorem op_inDT (hu : X.A.units + 64 < cLine) : OpR X (compareOp .In) (rInDT X.K) := by
  intro pins s σ H x y v u Q I rx ry h
  obtain ⟨d, ds, hd, he, fd, fe, q⟩ := h
  obtain ⟨as, r1⟩ := L2.Dp.reads I d x v hd rx
  obtain ⟨bs, r2⟩ := L2.Dp.reads I (.tuple ds) y u he ry
  have l1 : PyData.canLayAll0 ds = true := by
    have := fe.1
    simpa only [PyData.canLay0] using this
  refine SeqAt.in_tuple_reads r2 r1 l1 fd.1 ?_ ⟨.bl _, H, I, rfl, q⟩
  have h1 := fd.2
  have h2 : min (PyData.depthAll ds) d.depth ≤ d.depth := Nat.min_le_right _ _
  omega
end
section
variable {X : Cx} {rs : Rs} {M : Mem} {ρ : List (Option Ab)} {a b : Expr} {pos : Pos} {d : PyData} {ds : List PyData} {c e : Bool}
/-- d in (.., ..) -/
theorem de_inDT (hu : X.A.units + 64 < cLine) (ha : DE X rs M ρ a (Is (.d d))) (hb : DE X rs M ρ b (Is (aT ds))) (fd : Flt 60 d) (fe : Flt 60 (.tuple ds)) (hmk : behindInMarks .In b = false := by rfl) : DE X rs M ρ (.Compare a [.In] [b] pos) (Is (aB (ds.any fun z => PyData.eqv z d))) :=
  de_cmp (op_inDT hu) ha hb (fun _ _ e1 e2 => by
    subst e1 e2
    exact fun G H v u Q ok r1 r2 k => ⟨d, ds, view_d d G H v ok r1, view_d (.tuple ds) G H u ok r2, fd, fe, k _ _ G H rfl (Dp.bl _) (Nxt.rfl ok)⟩) hmk
theorem dt_neB (ha : DE X rs M ρ a (Is (aB c))) (hb : DE X rs M ρ b (Is (aB e))) : DT X rs M ρ (.Compare a [.NotEq] [b] pos) (fun t => t = !decide (c = e)) :=
  dt_cmp op_ne ha hb (fun _ _ e1 e2 => by
    subst e1 e2
    refine fun G H v u Q ok r1 r2 k => ?_
    have r1 : Dp X.K G v (.bool c) := r1
    have r2 : Dp X.K G u (.bool e) := r2
    cases r1
    cases r2
    refine ⟨rfl, k _ _ G H ⟨_, rfl, rfl⟩ ?_ (Nxt.rfl ok)⟩
    have e : decide (V.bl c = V.bl e) = decide (c = e) := by simp only [V.bl.injEq]
    rw [e]
    exact Dp.bl _) (nomark _)
end
end HW
/-! Own layer, part Tp: repr of texts and None too. -/
namespace HW
open PySem PySem.Spec PyProof.Rows L2 RZ
def Shw (d : PyData) : Prop := (∃ ds, d = .list ds) ∨ (∃ ds, d = .tuple ds) ∨ (∃ i, d = .int i) ∨ (∃ s, d = .str s) ∨ d = .none
section
variable {X : Cx} {rs : Rs} {M : Mem} {ρ : List (Option Ab)} {e : Expr} {pos p : Pos} {R Ra : Ab → Prop} {x : Ab}
def rReprA (K : PySem.W.Frag) : List V → Hp → VK → Prop := fun xs H Q => ∃ v d, xs = [v] ∧ L2.Dp K H v d ∧ Shw d ∧ Sz 50 10000000 d ∧ Q (.str d.shown) H
theorem cr_reprA (gd : X.A.guards = some []) (hu : X.A.units + 64 < cLine) : CallR X (.builtin "repr") (rReprA X.K) := by
  intro pins s σ H xs us Q I r h
  obtain ⟨v, d, rfl, hd, kind, sz, q⟩ := h
  have old : ((∃ ds, d = .list ds) ∨ (∃ ds, d = .tuple ds) ∨ ∃ i, d = .int i) → wpAny (model X.prog X.w) X.A (call (.builtin "repr") us) (EP X pins σ Q) X.xe s := fun k => cr_repr gd hu pins s σ H [v] us Q I r ⟨v, d, rfl, hd, k, sz, q⟩
  rcases kind with h | h | h | ⟨s', rfl⟩ | rfl
  · exact old (.inl h)
  · exact old (.inr (.inl h))
  · exact old (.inr (.inr h))
  · obtain ⟨u, rfl, ru⟩ := vals1 r
    cases hd
    obtain ⟨t, rfl⟩ := ru
    have e : PyData.shown (.str s') = reprText s' := by simp [PyData.shown]
    rw [e] at q
    refine PySem.P.repr_of_str ⟨.str _, H, I.tok _, ⟨_, rfl⟩, q⟩ ?_
    have := sz.ln
    rw [e] at this
    exact Nat.le_trans this (by decide)
  · obtain ⟨u, rfl, ru⟩ := vals1 r
    cases hd
    have ru : u = Value.none := ru
    subst ru
    have e : PyData.shown .none = ("None" : Str) := by simp [PyData.shown]
    rw [e] at q
    exact PySem.P.repr_of_none ⟨.str _, H, I.tok _, ⟨_, rfl⟩, q⟩
theorem de_reprA {d : PyData} (gd : X.A.guards = some []) (hu : X.A.units + 64 < cLine) (hm : X.mg "repr" = none) (ha : DE X rs M ρ e (Is (.d d))) (kind : Shw d) (sz : Sz 50 10000000 d) (hg : Gl X "repr" := by rfl)
    (he : starEach [e] X.env = (false, eval e X.env) :: starEach [] X.env := by rfl) : DE X rs M ρ (.Call (.Name "repr" p) [e] [] pos) (Is (aR d)) :=
  de_callB (cr_reprA gd hu) hg hm (by decide +kernel) (da_cons ha da_nil he) (fun as e1 => fun G H vs Q ok reps k => by
    subst e1
    match vs, reps with
    | [v], ⟨r, _⟩ => exact ⟨v, d, rfl, view_d d G H v ok r, kind, sz, k _ _ G H rfl (Dp.str _) (Nxt.rfl ok)⟩) (hs := he)
end
theorem sz_str {s : Str} (h : (PyData.str s).showable = true := by decide +kernel) (hl : (PyData.str s).shown.length ≤ 100 := by decide +kernel) : Sz 0 1000 (.str s) := ⟨h, by simp [PyData.depth], Nat.le_trans hl (by decide)⟩
theorem sz_none : Sz 0 1000 .none := ⟨by decide +kernel, by simp [PyData.depth], by decide +kernel⟩
end HW
/-! Own layer, part Tq: what laid tables fit. -/
namespace HW
open PySem PySem.Spec PyProof.Rows L2 RZ
section
variable {v n : Nat} {rows : Nat → List Int → List Nat}
theorem col_of_low {x y : List Int} {k : Nat} (hl : x.length = y.length) (h : lowL (k + 1) x = lowL (k + 1) y) : colI x k = colI y k := (low_cols hl (k + 1)).mp h k (Nat.lt_succ_self k)
theorem layW_col {x : List Int} {k : Nat} (hr : ∀ j, j < v → ∀ low : List Int, low.length = n → InW j low → IsP (2 ^ n) (rows j low)) (hx : IsSt v n x) (hk : k < v) : colI (layW rows v x) k = (((rows k (lowL k x)).getD (colI x k).toNat 0 : Nat) : Int) := by
  have l1 := (layW_in (rows := rows) x v).1
  have l2 := (layW_in (rows := rows) x (k + 1)).1
  have e : lowL (k + 1) (layW rows v x) = layW rows (k + 1) x := layW_low x v hk
  have e2 : lowL (k + 1) (layW rows v x) = lowL (k + 1) (layW rows (k + 1) x) := by
    rw [e]
    exact (lowL_id (layW_in x (k + 1)).2).symm
  rw [col_of_low (l1.trans l2.symm) e2]
  have lk := (layW_in (rows := rows) x k)
  have hp := hr k hk (lowL k x) ((lowL_len k x).trans hx.1) (lowL_in k x)
  have c1 := col_lt (k := k) hx.1
  have g := hp.get c1.1
  show colI (lowUp (((rows k (lowL k x)).getD (colI x k).toNat 0 : Nat) : Int) k (layW rows k x)) k = _
  exact lowUp_col lk.2 (by rw [lk.1, hx.1]; exact cast_lt g)
theorem lay_mov {k : Nat} {low : List Int} (hr : ∀ j, j < v → ∀ low : List Int, low.length = n → InW j low → IsP (2 ^ n) (rows j low)) (hk : k < v) (sl : IsSt k n low) : movN v n (tabOf v n (layW rows v)) k low = rows k low := by
  have lay := lay_map hr
  have hp := hr k hk low sl.1 sl.2
  refine ext_getD (by rw [movN_len, hp.len]) fun c hc => ?_
  rw [movN_len] at hc
  have cb := cast_lt hc
  have up : IsSt v n (lowUp (c : Int) k low) := ⟨(lowUp_len _ _ _).trans sl.1, lowUp_in sl.2 hk⟩
  have ec : colI (lowUp (c : Int) k low) k = (c : Int) := lowUp_col sl.2 (by rw [sl.1]; exact cb)
  rw [movN_get hc, tabOf_img lay up.1 up.2, layW_col hr up hk, lowUp_low sl.2, ec, Int.toNat_natCast, Int.toNat_natCast]
theorem lay_bits {f : List Nat} (hr : ∀ j, j < v → ∀ low : List Int, low.length = n → InW j low → IsP (2 ^ n) (rows j low)) (one : ∀ j, j < v → ∀ low : List Int, low.length = n → InW j low → rows j low = f) (v1 : 1 ≤ v) (f0 : f.getD 0 0 = 0) (ev : 3 < n → par f = 0) : Fit v n (tabOf v n (layW rows v)) "bits" := by
  have lay := lay_map hr
  have col : ∀ x k, IsSt v n x → k < v → colI (imgT v n (tabOf v n (layW rows v)) x) k = ((f.getD (colI x k).toNat 0 : Nat) : Int) := fun x k hx hk => by
    rw [tabOf_img lay hx.1 hx.2, layW_col hr hx hk, one k hk _ ((lowL_len k x).trans hx.1) (lowL_in k x)]
  refine .inl ⟨rfl, ⟨fun x y k l h1 h2 h3 h4 hk hl e => ?_, fun x k h1 h2 hk e => ?_⟩, fun h3 => ?_⟩
  · rw [col x k ⟨h1, h3⟩ hk, col y l ⟨h2, h4⟩ hl, e]
  · rw [col x k ⟨h1, h2⟩ hk, e]
    show ((f.getD 0 0 : Nat) : Int) = 0
    rw [f0]
    rfl
  · rw [lay_mov hr (by omega) (zero_st n), one 0 (by omega) _ (zero_st n).1 (zero_st n).2]
    exact ev h3
theorem lay_all {sg : Nat} (hr : ∀ j, j < v → ∀ low : List Int, low.length = n → InW j low → IsP (2 ^ n) (rows j low)) (sgn : ∀ j, j < v → ∀ low : List Int, low.length = n → InW j low → par (rows j low) = sg) (ev : 3 < n → sg = 0) : Tri v n (tabOf v n (layW rows v)) ∧ SgnP v n (tabOf v n (layW rows v)) := by
  have lay := lay_map hr
  refine ⟨tabOf_tri lay, fun k m low other hk hm sl so => ?_⟩
  rw [lay_mov hr hk sl, lay_mov hr hm so, sgn k hk low sl.1 sl.2, sgn m hm other so.1 so.2]
  exact ⟨rfl, ev⟩
theorem bit_dbl0 (x : Int) (hv : 0 < v) : bitI (x * 2 % 2 ^ v) 0 = 0 := by
  rw [bitI_emod hv]
  unfold bitI
  rw [show (2 : Int) ^ 0 = 1 from rfl, Int.ediv_one]
  omega
theorem bit_dbl {k : Nat} (x : Int) (hk : k + 1 < v) : bitI (x * 2 % 2 ^ v) (k + 1) = bitI x k := by
  rw [bitI_emod hk]
  unfold bitI
  rw [Int.pow_succ, Int.mul_ediv_mul_of_pos_left _ _ (by decide : (0 : Int) < 2)]
theorem col_dbl0 (hv : 0 < v) : ∀ x : List Int, colI (dblL v x) 0 = 0
  | [] => rfl
  | a :: x => by
    have ih := col_dbl0 hv x
    show bitI (a * 2 % 2 ^ v) 0 + 2 * colI (dblL v x) 0 = 0
    rw [ih, bit_dbl0 a hv]
    rfl
theorem col_dbl {k : Nat} (hk : k + 1 < v) : ∀ x : List Int, colI (dblL v x) (k + 1) = colI x k
  | [] => rfl
  | a :: x => by
    have ih := col_dbl hk x
    show bitI (a * 2 % 2 ^ v) (k + 1) + 2 * colI (dblL v x) (k + 1) = bitI a k + 2 * colI x k
    rw [ih, bit_dbl a hk]
theorem half_low {m : Nat} (hm : m + 1 ≤ v) (x : List Int) : (lowL (m + 1) (dblL v x)).map (· / 2) = lowL m x := by
  unfold lowL dblL
  rw [List.map_map, List.map_map]
  refine List.map_congr_left fun a _ => ?_
  show (a * 2 % 2 ^ v) % 2 ^ (m + 1) / 2 = a % 2 ^ m
  have dv : (2 : Int) ^ (m + 1) ∣ 2 ^ v := by
    obtain ⟨d, rfl⟩ : ∃ d, v = (m + 1) + d := ⟨v - (m + 1), by omega⟩
    exact ⟨2 ^ d, Int.pow_add 2 (m + 1) d⟩
  rw [Int.emod_emod_of_dvd _ dv, Int.pow_succ, Int.mul_comm a 2, Int.mul_comm (2 ^ m) 2, Int.mul_emod_mul_of_pos _ _ (by decide : (0 : Int) < 2), Int.mul_ediv_cancel_left _ (by decide : (2 : Int) ≠ 0)]
theorem lay_sums (hr : ∀ j, j < v → ∀ low : List Int, low.length = n → InW j low → IsP (2 ^ n) (rows j low)) (v1 : 1 ≤ v) (f0 : (rows 0 (zeroL n)).getD 0 0 = 0)
    (tie : ∀ k, k + 1 < v → ∀ low : List Int, low.length = n → InW (k + 1) low → colI low 0 = 0 → rows (k + 1) low = rows k (low.map (· / 2))) : DblP v n (tabOf v n (layW rows v)) := fun x sx => by
  have lay := lay_map hr
  have sd : IsSt v n (dblL v x) := ⟨(dblL_len v x).trans sx.1, dblL_in v x⟩
  rw [tabOf_img lay sd.1 sd.2, tabOf_img lay sx.1 sx.2]
  have s1 := lay.inn _ sd.1 sd.2
  have s2 := lay.inn _ sx.1 sx.2
  have key : lowL v (layW rows v (dblL v x)) = lowL v (dblL v (layW rows v x)) := (low_cols (s1.1.trans ((dblL_len v _).trans s2.1).symm) v).mpr fun k hk => by
    rw [layW_col hr sd hk]
    cases k with
    | zero =>
      rw [col_dbl0 (by omega), col_dbl0 (by omega)]
      have e : lowL 0 (dblL v x) = zeroL n := (low_zero sd.1 (zero_st n).1).trans (lowL_id (zero_st n).2)
      rw [e]
      show (((rows 0 (zeroL n)).getD 0 0 : Nat) : Int) = 0
      rw [f0]
      rfl
    | succ m =>
      rw [col_dbl hk, col_dbl hk, layW_col hr sx (by omega), tie m hk _ ((lowL_len _ _).trans sd.1) (lowL_in _ _) ?_, half_low (by omega)]
      have el : (lowL (m + 1) (dblL v x)).length = (dblL v x).length := lowL_len _ _
      rw [col_of_low (k := 0) el (lowL_low (by omega) _)]
      exact col_dbl0 (by omega) x
  rw [lowL_id s1.2, lowL_id (dblL_in v _)] at key
  exact key
end
end HW
/-! Own layer, part Tr: keys of a number and a tuple of numbers, sorted. -/
namespace HW
open PySem PySem.Spec PyProof.Rows L2 RZ
theorem alike_nk (a b : NK) : PySem.W.alike (nkD a) (nkD b) = true := by
  unfold nkD
  simp only [PySem.W.alike, PySem.W.alikeAll, PySem.W.alike_ints]
  rfl
def rSortNK (K : PySem.W.Frag) : List V → Hp → VK → Prop := fun vs H Q => ∃ (a : Addr) (ws : List V) (ks : List NK) (G : Hp), vs = [.ref a] ∧ SqL K H a ws ∧ Same G H ∧ DpAll K G ws (ks.map nkD) ∧ ks.length ≤ 100000 ∧
  ∀ (ws' : List V) (ks' : List NK) (p : Addr), ks'.Perm ks → DpAll K G ws' (ks'.map nkD) → H p = none → Q (.ref p) (upd H p (.lst ws'))
section
variable {X : Cx}
theorem cr_sortNK (hu : X.A.units + 64 < cLine) : CallR X (.builtin "sorted") (rSortNK X.K) := by
  intro pins s σ H vs us Q I r h
  obtain ⟨a, ws, ks, G, rfl, sq, gh, ra, hl, q⟩ := h
  obtain ⟨u, rfl, ru⟩ := vals1 r
  obtain rfl : u = Value.ref a := ru
  obtain ⟨its, r2, ⟨ol, nl, el, cl, dl, dd⟩, hz⟩ := I.list sq
  have each : PySem.W.EachIs (fun u d => (∃ v, RelV v u ∧ Dp X.K G v d) ∧ d ∈ ks.map nkD) its (ks.map nkD) := vals_each r2 ra fun v u d w1 w2 m => ⟨⟨v, w1, w2⟩, m⟩
  have each' : PySem.W.EachIs (fun u d => ∃ v, RelV v u ∧ Dp X.K G v d) its (ks.map nkD) := each.mono fun u d z => z.1
  have reads : PySem.W.EachIs (fun v b => ∃ as, Reads s.heap v (id b) as) its (ks.map nkD) := each'.mono fun u d ⟨v, rv, dv⟩ => L2.Dp.reads I d v u (Dp.old d v (dp_same gh _ _ dv)) rv
  refine PySem.W.sorted_data (enc := id) (show s.heap.IsList a its.toArray from ⟨ol, el, cl, nl, dd⟩) each' reads (fun d hd d' hd' => ?_) (.inl fun d hd => ?_) (by rw [List.length_map]; exact Nat.le_of_lt (lt_line hl)) (fun d hd => ?_) fun out ln ea => ?_
  · rw [List.map_id] at hd hd'
    obtain ⟨k1, _, rfl⟩ := List.mem_map.mp hd
    obtain ⟨k2, _, rfl⟩ := List.mem_map.mp hd'
    exact alike_nk k1 k2
  · rw [List.map_id] at hd
    obtain ⟨k1, _, rfl⟩ := List.mem_map.mp hd
    exact ⟨_, _, rfl⟩
  · obtain ⟨k1, _, rfl⟩ := List.mem_map.mp hd
    have z := (lay_ints k1.2).2
    show X.A.units + 2 + PyData.depth (nkD k1) < cLine
    unfold nkD
    simp only [PyData.depth, PyData.depthAll, z]
    omega
  · obtain ⟨ws', rv', rd'⟩ := each_vals ea
    have pm : ((ks.map nkD).mergeSort (PySem.W.dataLe false id)).Perm (ks.map nkD) := List.mergeSort_perm _ _
    obtain ⟨ks', pk, ek⟩ : ∃ ks' : List NK, ks'.Perm ks ∧ (ks.map nkD).mergeSort (PySem.W.dataLe false id) = ks'.map nkD := by
      refine ⟨ks.mergeSort fun a b => PySem.W.dataLe false id (nkD a) (nkD b), List.mergeSort_perm _ _, ?_⟩
      exact (PySem.W.sort_maps nkD fun r _ s _ => rfl).symm
    rw [ek] at rd'
    obtain ⟨cc, at_⟩ := sortedAll_at s.heap its out.toArray
    have hp : H (s.heap.objs.size + 1) = none := I.hok.fresh (Nat.le_succ _)
    have ln' : ws'.length ≤ sizeLine := by
      rw [rv'.length, ln, List.length_map]
      exact Nat.le_of_lt (lt_line hl)
    exact ⟨.ref (s.heap.objs.size + 1), _, I.laid (t' := s.toks) (fun b o e => sortedAll_old e) (Nat.le_succ _) (o := .lst ws') ⟨ln', out, cc, rv', at_⟩, rfl, q ws' ks' _ pk rd' hp⟩
end
section
variable {X : Cx} {rs : Rs} {M : Mem} {ρ : List (Option Ab)} {e : Expr} {p pos : Pos} {Ra : Ab → Prop}
/-- sorted(e) of such keys -/
theorem dn_sortNK {T : List Ab → Prop} (hu : X.A.units + 64 < cLine) (hm : X.mg "sorted" = none) (ha : DE X rs M ρ e Ra) (h : ∀ y, Ra y → ∃ ks : List NK, y = aL (ks.map nkD) ∧ ks.length ≤ 100000 ∧ ∀ ks' : List NK, ks'.Perm ks → T ((ks'.map nkD).map .d)) (hg : Gl X "sorted" := by rfl)
    (he : starEach [e] X.env = (false, eval e X.env) :: starEach [] X.env := by rfl) (hpl : (backTo pos (starEach [] X.env)).any (·.1) = false := by rfl) : DN X rs M ρ (.Call (.Name "sorted" p) [e] [] pos) T :=
  pe_weak (pe_callB (cr_sortNK hu) hg hm (by decide +kernel) (da_consR (T' := fun as => ∃ y, as = [y] ∧ Ra y) ha da_nil (fun y ys hy hys => ⟨y, by rw [hys], hy⟩) he) (by decide) (by decide) he hpl) fun σ H Q ⟨G, l, ok, k⟩ => ⟨G, l, ok, fun vs as G1 H1 ra rep n => by
    obtain ⟨y, rfl, hy⟩ := ra
    obtain ⟨ks, rfl, hl, ht⟩ := h y hy
    obtain ⟨v, rfl, r⟩ := repAll_one rep
    have ok1 := ok.nxt n
    have r : Dp X.K G1 v (.list (ks.map nkD)) := r
    cases r with
    | lst hx rx =>
      refine ⟨_, _, ks, G1, rfl, .inl (.inl (ok1.gh _ _ hx)), ok1.gh, rx, hl, fun ws' ks' q p1 rd hq => ?_⟩
      exact k q _ _ G1 _ (ht ks' p1) (repAll_dp.mpr rd) upd_same (ok1.gnone hq) (fresh_of ok n hq) (n.trans (Nxt.newM ok1 hq) ok)⟩
end
end HW
/-! Own layer, part Ts: list(d) and d.copy() of dicts whose keys are a number and a tuple of numbers. -/
namespace HW
open PySem PySem.Spec PyProof.Rows L2 RZ
section
variable {X : Cx}
theorem pn_keys : ∀ {xs : List (NK × Addr × V)} {ys : List (NK × Addr × Value)}, PN xs ys → ys.map (fun x => x.2.1) = xs.map fun x => x.2.1
  | _, _, .nil => rfl
  | _, _, .cons h t => by rw [List.map_cons, List.map_cons, pn_keys t, h.2.1]
theorem cr_listNd (hc : X.calm = true) : CallR X (.type "list") (fun vs H Q => ∃ q xs, vs = [V.ref q] ∧ H q = some (NdO q xs) ∧ (q == sysModules) = false ∧ xs.length ≤ 100000 ∧ ∀ p, H p = none → Q (.ref p) (upd H p (.lst ((xs.map fun x => x.2.1).map V.ref)))) := by
  intro pins s σ H xs0 us Q I r h
  obtain ⟨d, xs, rfl, hd, hs, hl, q⟩ := h
  obtain ⟨u, rfl, rx⟩ := vals1 r
  cases rx
  obtain ⟨⟨ys, pr, o, es, ep, ho, hx, hdt, h4, h5⟩, _⟩ := (show ObjOk X.prog X.w H s.heap d (NdO d xs) from I.hok d _ hd)
  have he := h4 X.w
  have l1 : es.size = ys.length := by
    have := congrArg List.length he
    rw [List.length_map] at this
    rw [← this]
    simp
  have l2 := pn_len pr
  refine PySem.W.kdl_call (kdl_raw hs hx hdt) (I.ok.hd hc) ho (by have := lt_line hl; omega) fun h' tk acc' c' kp e it => ?_
  have ea : acc'.toList = ys.map fun x => Value.ref x.2.1 := by
    have hl : acc'.toList.length = ys.length := by rw [Array.length_toList, it.1]; exact l1
    apply List.ext_getElem?
    intro j
    rw [List.getElem?_map]
    cases hj : acc'.toList[j]? with
    | none =>
      have h1 := List.getElem?_eq_none_iff.mp hj
      rw [List.getElem?_eq_none (by omega)]
      rfl
    | some v =>
      obtain ⟨en, hen, hv⟩ := it.2 j v (by rw [← Array.getElem?_toList]; exact hj)
      have qe : es.toList[j]? = (ys.map fun x => (⟨(nkey x.1).hash X.w, .ref x.2.1, x.2.2⟩ : DictEntry))[j]? := by rw [he]
      rw [Array.getElem?_toList, hen, List.getElem?_map] at qe
      cases hb : ys[j]? with
      | none =>
        rw [hb] at qe
        cases qe
      | some b =>
        rw [hb] at qe
        have e2 := Option.some.inj qe
        rw [hv, e2]
        rfl
  have ey : ys.map (fun x => x.2.1) = xs.map fun x => x.2.1 := pn_keys pr
  have eb : acc'.toList = (xs.map fun x => x.2.1).map Value.ref := by rw [ea, ← ey, List.map_map]; rfl
  have rv : Vals ((xs.map fun x => x.2.1).map V.ref) acc'.toList := by rw [eb]; exact vals_refs _
  have hz : ((xs.map fun x => x.2.1).map V.ref).length ≤ sizeLine := by rw [List.length_map, List.length_map]; exact Nat.le_of_lt (lt_line hl)
  refine ⟨.ref s.heap.objs.size, _, I.laid (t' := tk) (o := .lst ((xs.map fun x => x.2.1).map V.ref)) kp (Nat.le_refl _) ?_, rfl, q _ (I.hok.fresh (Nat.le_refl _))⟩
  exact ⟨hz, acc'.toList, c', rv, by rw [Array.toArray_toList]; exact e⟩
end
section
variable {X : Cx} {rs : Rs} {M : Mem} {ρ : List (Option Ab)} {e : Expr} {p pos : Pos} {kvs : List (NK × Ab)}
theorem keys_dp {K : PySem.W.Frag} {G : Hp} : ∀ {xs : List (NK × Addr × V)} {ks : List NK}, xs.map (·.1) = ks → (∀ x ∈ xs, Dp K G (.ref x.2.1) (nkD x.1)) → DpAll K G ((xs.map fun x => x.2.1).map V.ref) (ks.map nkD)
  | [], _, e, _ => by subst e; exact .nil
  | x :: xs, _, e, h => by
    subst e
    exact .cons (h x List.mem_cons_self) (keys_dp rfl fun y hy => h y (List.mem_cons_of_mem _ hy))
/-- list(d), its keys -/
theorem dn_listNd (hc : X.calm = true) (hm : X.mg "list" = none) (ha : DE X rs M ρ e (Is (aRows X.K kvs))) (hl : kvs.length ≤ 100000) (hg : Gl X "list" := by rfl) (he : starEach [e] X.env = (false, eval e X.env) :: starEach [] X.env := by rfl) :
    DN X rs M ρ (.Call (.Name "list" p) [e] [] pos) (fun as => as = ((kvs.map (·.1)).map nkD).map .d) := dn_callTy (cr_listNd hc) hg hm (by decide +kernel) (da_cons ha da_nil he) (fun as e1 => fun G H vs Q ok reps k => by
      subst e1
      match vs, reps with
      | [v], ⟨rv, _⟩ =>
        obtain ⟨G0, e0, q, rfl, xs, g1, g2, g3, g4, g5⟩ := rv
        have lx : xs.length = kvs.length := by
          have := congrArg List.length g3
          rwa [List.length_map, List.length_map] at this
        refine ⟨q, xs, rfl, ok.gh _ _ (e0 _ _ g1), g2, by omega, fun z hz => ?_⟩
        exact k z _ _ G _ rfl (repAll_dp.mpr (dpAll_same e0 _ _ (keys_dp g3 g5))) upd_same (ok.gnone hz) hz (Nxt.newM ok hz)) (hs := he)
end
end HW
/-! Own layer, part Tt: d.copy(), d[k] = v of a standing key, and freezing, of dicts whose keys are a number and a tuple of numbers. -/
namespace HW
open PySem PySem.Spec PyProof.Rows L2 RZ
section
variable {X : Cx} {o e i : Expr} {td ty tv : TE} {apos pos pos' : Pos}
/-- a key's hash, of no world -/
def hashK (k : NK) : Int := reduceHash (Builtin.Tuple.tupleHashOf [hashInt k.1, reduceHash (Builtin.Tuple.tupleHashOf (k.2.map hashInt))])
theorem nums_hashK (w : World) : ∀ ns : List Int, NestedKey.hashes w (ns.map .num) = ns.map hashInt
  | [] => by simp only [List.map_nil, NestedKey.hashes]
  | n :: ns => by simp only [List.map_cons, NestedKey.hashes, NestedKey.hash, nums_hashK w ns]
theorem nkey_hashK (w : World) (k : NK) : (nkey k).hash w = hashK k := by
  unfold nkey hashK
  simp only [NestedKey.hash, NestedKey.hashes, nums_hashK w]
/-- keys whose hashes are unlike -/
def Unlk (ks : List NK) : Prop := ∀ a ∈ ks, ∀ b ∈ ks, hashK a = hashK b → a = b
theorem inj_of_nodup : ∀ {l : List NK}, (l.map hashK).Nodup → Unlk l
  | [], _ => fun a ha => absurd ha List.not_mem_nil
  | x :: l, h => fun a ha b hb e => by
    rw [List.map_cons, List.nodup_cons] at h
    rcases List.mem_cons.mp ha with ha | ha <;> rcases List.mem_cons.mp hb with hb | hb
    · rw [ha, hb]
    · exact absurd (List.mem_map.mpr ⟨b, hb, by rw [← e, ha]⟩) h.1
    · exact absurd (List.mem_map.mpr ⟨a, ha, by rw [e, hb]⟩) h.1
    · exact inj_of_nodup h.2 a ha b hb e
/-- the places of rows -/
def keysOf (n v : Nat) : List NK := (List.range v).flatMap fun l => (allT l n).map fun low => ((l : Int), low)
theorem unlk31 : Unlk (keysOf 3 1) := inj_of_nodup (by decide +kernel)
theorem unlk32 : Unlk (keysOf 3 2) := inj_of_nodup (by decide +kernel)
theorem unlk41 : Unlk (keysOf 4 1) := inj_of_nodup (by decide +kernel)
theorem unlk42 : Unlk (keysOf 4 2) := inj_of_nodup (by decide +kernel)
theorem unlk51 : Unlk (keysOf 5 1) := inj_of_nodup (by decide +kernel)
theorem Unlk.sub {l m : List NK} (h : Unlk m) (s : ∀ a ∈ l, a ∈ m) : Unlk l := fun a ha b hb => h a (s a ha) b (s b hb)
theorem pn_ks : ∀ {xs : List (NK × Addr × V)} {ys : List (NK × Addr × Value)}, PN xs ys → ys.map (fun x => x.1) = xs.map fun x => x.1
  | _, _, .nil => rfl
  | _, _, .cons h t => by rw [List.map_cons, List.map_cons, pn_ks t, h.1]
def tNCopy (K : PySem.W.Frag) (td : TE) : TE := fun σ H Q => td σ H fun x H1 => ∃ G q xs, Same G H1 ∧ x = .ref q ∧ H1 q = some (NdO q xs) ∧ (∀ x ∈ xs, Dp K G (.ref x.2.1) (nkD x.1)) ∧ (q == sysModules) = false ∧ xs.length ≤ 100000 ∧ Unlk (xs.map (·.1)) ∧
  ∀ p, H1 p = none → (p == sysModules) = false → Q (.ref p) (upd H1 p (NdO p xs))
theorem pe_ncopy (ho : PE X o td) (hbase : attributeBase o "copy" X.env (eval o X.env) = eval o X.env := by rfl) (hline : (apos.endLine == pos.line) = true := by rfl) :
    PE X (.Call (.Attribute o "copy" apos) [] [] pos) (tNCopy X.K td) := by
  refine ⟨fun pins s σ H Q I h => ?_⟩
  refine wpAny_Call_method hbase rfl hline PySem.F.plainAttrs_dict PySem.F.slot_dict_copy PySem.F.type_dict_copy (thn (ho.run pins s σ H _ I h) fun u s1 ⟨x, H1, I1, rx, G, q, xs, gh, ex, e1, k1, hq, hl, hap, kk⟩ => ?_)
  subst ex
  obtain rfl : u = Value.ref q := rx
  obtain ⟨ys, pr, dd⟩ := nd_dict I1 e1 fun x hx => dp_same gh _ _ (k1 x hx)
  refine ⟨dd.typeIs, ?_, ?_⟩
  · obtain ⟨ob, _, _, h1, h2, _⟩ := dd
    exact fun a ea => by
      injection ea with ea
      subst ea
      exact ⟨ob, h1, h2.2.1⟩
  refine Calls.callWith_builtin rfl (PySem.evalArgs_none ?_)
  have hsz : (nz ys).length ≤ sizeLine := by rw [List.length_map, pn_len pr]; exact Nat.le_of_lt (lt_line hl)
  have st := nestedKind_stays (prog := X.prog) (w := X.w)
  obtain ⟨_, _, _, _, _, _, _, his, hnd⟩ := id dd
  have hap' : ((nz ys).map fun x => (nestedKind X.prog X.w).hash x.1).Nodup := by
    refine List.pairwise_map.mpr ((List.pairwise_map.mp hnd).imp_of_mem fun {a b} ha hb ne he => ne ?_)
    obtain ⟨y1, m1, rfl⟩ := List.mem_map.mp ha
    obtain ⟨y2, m2, rfl⟩ := List.mem_map.mp hb
    have k1 : y1.1 ∈ xs.map (·.1) := by
      rw [← pn_ks pr]
      exact List.mem_map.mpr ⟨y1, m1, rfl⟩
    have k2 : y2.1 ∈ xs.map (·.1) := by
      rw [← pn_ks pr]
      exact List.mem_map.mpr ⟨y2, m2, rfl⟩
    have he : (nkey y1.1).hash X.w = (nkey y2.1).hash X.w := he
    rw [nkey_hashK, nkey_hashK] at he
    show nkey y1.1 = nkey y2.1
    rw [hap _ k1 _ k2 he]
  refine call_copyH hq dd hsz (keyed_apart st dd) hap' (fun h' hk x hm' => st.stays (fun b o _ _ e _ => hk b o e) (his x hm')) fun h' dd' kp => ?_
  obtain ⟨o', es, ep, a1, a2, a3, a4, a5, a6⟩ := dd'
  have hs : (s1.heap.objs.size == sysModules) = false := beq_eq_false_iff_ne.mpr (Ne.symm (Nat.ne_of_lt I1.big))
  refine ⟨.ref s1.heap.objs.size, _, I1.laid (a := s1.heap.objs.size) (o := NdO s1.heap.objs.size xs) (t' := s1.toks) kp (Nat.le_refl _) ⟨⟨ys, pr, o', es, ep, a1, a2, a3, fun w => ?_, ?_⟩, ⟨_, a1⟩, ndO_stay⟩, rfl, kk _ (I1.hok.fresh (Nat.le_refl _)) hs⟩
  · rw [a4]
    unfold nz
    rw [List.map_map]
    refine List.map_congr_left fun x hx => ?_
    show (⟨(nkey x.1).hash X.w, _, _⟩ : DictEntry) = _
    rw [nkey_hash X.w w]
  · have e2 : (nz ys).map (·.1) = (ys.map (·.1)).map nkey := by
      unfold nz
      rw [List.map_map, List.map_map]
      rfl
    rw [e2] at a6
    exact (List.pairwise_map.mp a6).imp fun {a b} n q => n (by rw [q])
end
section
variable {X : Cx} {Ff : Addr → Prop} {S : Sta} {o : Expr} {apos pos : Pos} {kvs : List (NK × Ab)}
/-- d.copy(), of one of our own -/
theorem dx_ncopy {U : Sta → Ab → Prop} (ho : DE X S.rs S.M S.ρ o (Is (aRows X.K kvs))) (hl : kvs.length ≤ 100000) (hap : Unlk (kvs.map (·.1))) (k : ∀ q, U ⟨S.rs, ⟨q, true, .nd kvs⟩ :: S.M, S.ρ⟩ (.at q))
    (hbase : attributeBase o "copy" X.env (eval o X.env) = eval o X.env := by rfl) (hline : (apos.endLine == pos.line) = true := by rfl) : DX X Ff S (.Call (.Attribute o "copy" apos) [] [] pos) U := fun G0 H0 =>
  pe_weak (pe_ncopy ho hbase hline) fun σ H Q ⟨G, s, kk⟩ => ⟨G, s.loc, s.ok, fun v a G1 H1 ra rep1 n1 => by
    subst ra
    have s1 := s.nxt n1
    obtain ⟨G2, e0, q, rfl, xs, g1, g2, g3, g4, g5⟩ := rep1
    have lx : xs.length = kvs.length := by
      have := congrArg List.length g3
      rwa [List.length_map, List.length_map] at this
    refine ⟨G1, q, xs, s1.ok.gh, rfl, s1.ok.gh _ _ (e0 _ _ g1), fun x hx => dp_same e0 _ _ (g5 x hx), g2, by omega, by rw [g3]; exact hap, fun p hp hs => ?_⟩
    have n := Nxt.newM (o := NdO p xs) s1.ok hp
    exact kk _ (.ref p) (.at p) G1 _ (k p) rfl (s1.pushM n ⟨xs, upd_same, hs, g3, g4.same e0, fun x hx => dp_same e0 _ _ (g5 x hx)⟩ (s1.ok.gnone hp) hp) (n1.g.trans n.g)⟩
end
section
def repN {α : Type} (k : NK) (v : α) (x : NK × Addr × α) : NK × Addr × α := if x.1 = k then (x.1, x.2.1, v) else x
theorem pn_rep {k : NK} {v : V} {r : Value} (rv : RelV v r) : ∀ {xs : List (NK × Addr × V)} {ys : List (NK × Addr × Value)}, PN xs ys → PN (xs.map (repN k v)) (ys.map (repN k r))
  | _, _, .nil => .nil
  | x :: _, y :: _, .cons a t => by
    rw [List.map_cons, List.map_cons]
    refine .cons ?_ (pn_rep rv t)
    unfold repN
    by_cases e : x.1 = k
    · rw [if_pos e, if_pos (a.1 ▸ e)]
      exact ⟨a.1, a.2.1, rv⟩
    · rw [if_neg e, if_neg fun z => e (a.1.trans z)]
      exact a
theorem repN_keys {α : Type} {k : NK} {v : α} (xs : List (NK × Addr × α)) : (xs.map (repN k v)).map (·.1) = xs.map (·.1) := by
  rw [List.map_map]
  refine List.map_congr_left fun x _ => ?_
  show (repN k v x).1 = x.1
  unfold repN
  split <;> rfl
theorem nz_rep {k : NK} {r : Value} (ys : List (NK × Addr × Value)) : (nz ys).map (putAt (nkey k) r) = nz (ys.map (repN k r)) := by
  unfold nz
  rw [List.map_map, List.map_map]
  refine List.map_congr_left fun y _ => ?_
  show putAt (nkey k) r (nkey y.1, y.2) = (nkey (repN k r y).1, (repN k r y).2)
  unfold putAt repN
  by_cases e : y.1 = k
  · rw [if_pos (show nkey y.1 = nkey k by rw [e]), if_pos e]
  · rw [if_neg (show ¬ nkey y.1 = nkey k from fun z => e (nkey_inj z)), if_neg e]
theorem atKey_nold {k : NK} : ∀ {ys : List (NK × Addr × Value)}, k ∈ ys.map (·.1) → ∃ p, atKey (nz ys) (nkey k) = some p
  | [], h => by simp at h
  | y :: ys, h => by
    by_cases e : y.1 = k
    · exact ⟨y.2, by simp [atKey, nz, List.find?_cons, e]⟩
    · rw [List.map_cons] at h
      obtain ⟨p, hp⟩ := atKey_nold ((List.mem_cons.mp h).resolve_left fun z => e z.symm)
      have ez : ¬ nkey y.1 = nkey k := fun z => e (nkey_inj z)
      refine ⟨p, ?_⟩
      rw [← hp]
      simp [atKey, nz, List.find?_cons, ez]
variable {X : Cx} {o i e f : Expr} {pos pos' apos : Pos} {td ty tv tx : TE}
/-- d[k] = v, a standing key -/
def sNSet (K : PySem.W.Frag) (td ty tv : TE) : TS := fun D σ H => tv σ H fun v H1 => td σ H1 fun x H2 => ty σ H2 fun y H3 => ∃ G q xs k, Same G H3 ∧ x = .ref q ∧ H3 q = some (NdO q xs) ∧ (∀ x ∈ xs, Dp K G (.ref x.2.1) (nkD x.1)) ∧ xs.length ≤ 100000 ∧ Dp K G y (nkD k) ∧ k ∈ xs.map (·.1) ∧ D.nx σ (upd H3 q (NdO q (xs.map (repN k v))))
theorem ps_nset (hu : X.A.units + 64 < cLine) (ho : PE X o td) (hi : PE X i ty) (hv : PE X e tv) (hs : swapsWith e (some (.Subscript o i pos')) pos.line X.env = pure false) : PS X (.Assign [.Subscript o i pos'] e pos) (sNSet X.K td ty tv) := by
  refine ⟨fun pins s σ H D I h => ?_⟩
  refine wpAny_Assign_Subscript (thn (hv.run pins s σ H _ I h) fun r s1 ⟨v, H1, I1, rv, q1⟩ => thn (ho.run pins s1 σ H1 _ I1 q1) fun u s2 ⟨x, H2, I2, rx, q2⟩ => thn (hi.run pins s2 σ H2 _ I2 q2) fun iv s3 ⟨y, H3, I3, ry, G, q, xs, k, gh, ex, e1, e5, hl, dk, hk, q3⟩ => ?_) hs
  subst ex
  obtain rfl : u = Value.ref q := rx
  obtain ⟨ys, pr, dd⟩ := nd_dict I3 e1 fun x hx => dp_same gh _ _ (e5 x hx)
  obtain ⟨b, rfl, nk⟩ := nis_key I3 (dp_same gh _ _ dk)
  obtain rfl : iv = Value.ref b := ry
  refine wpAny_setItem_heap (knd := nestedKind X.prog X.w) (hsz := by rw [List.length_map, pn_len pr]; exact Nat.le_trans hl (by decide)) (show X.A.in1.units + 8 < cLine from by show X.A.units + 1 + 8 < cLine; omega) ⟨nk, nkey_depth k⟩ dd fun h' dd' hb => ?_
  obtain ⟨p, hp⟩ := atKey_nold (k := k) (ys := ys) (by rw [nkeys_of (k := k) pr]; exact hk)
  rw [storedH_old hp, nz_rep] at dd'
  have prz := pn_rep (k := k) rv pr
  generalize ezs : ys.map (repN k r) = zs at *
  obtain ⟨o', es, ep, a1, a2, a3, a4, a5, a6⟩ := dd'
  refine ⟨σ, _, ?_, q3⟩
  refine I3.write (x := q) (e := q) (by rw [e1]; exact True.intro) (.inl rfl) (fun c z hc y => (hb.2 c hc).trans y) ⟨_, a1⟩ ⟨⟨zs, prz, o', es, ep, a1, a2, a3, fun w => ?_, ?_⟩, ⟨_, a1⟩, ndO_stay⟩
  · rw [a4]
    unfold nz
    rw [List.map_map]
    refine List.map_congr_left fun x hx => ?_
    show (⟨(nkey x.1).hash X.w, _, _⟩ : DictEntry) = _
    rw [nkey_hash X.w w]
  · have e2 : (nz zs).map (·.1) = (zs.map (·.1)).map nkey := by
      unfold nz
      rw [List.map_map, List.map_map]
      rfl
    rw [e2] at a6
    exact (List.pairwise_map.mp a6).imp fun {a b} n q => n (by rw [q])
end
/-- an entry changed -/
def setN (kvs : List (NK × Ab)) (ky : NK) (a : Ab) : List (NK × Ab) := kvs.map fun kv => if kv.1 = ky then (ky, a) else kv
theorem valN_set {kvs : List (NK × Ab)} {ky j : NK} {a : Ab} (h : ky ∈ kvs.map (·.1)) : valN (setN kvs ky a) j = if j = ky then some a else valN kvs j := by
  induction kvs with
  | nil => simp at h
  | cons kv kvs ih =>
    unfold setN valN at *
    rw [List.map_cons, List.find?_cons]
    by_cases z : kv.1 = ky
    · rw [if_pos z]
      by_cases y : j = ky
      · rw [if_pos y, y]
        simp
      · rw [if_neg y, List.find?_cons]
        have n1 : ¬ ky = j := fun q => y q.symm
        have n2 : ¬ kv.1 = j := fun q => y (q.symm.trans z)
        rw [show decide ((ky, a).1 = j) = false from decide_eq_false n1, show decide (kv.1 = j) = false from decide_eq_false n2]
        by_cases m : ky ∈ kvs.map (·.1)
        · have := ih m
          rw [if_neg y] at this
          exact this
        · have e : kvs.map (fun kv => if kv.1 = ky then (ky, a) else kv) = kvs := by
            refine (List.map_congr_left (g := id) fun x hx => ?_).trans (List.map_id _)
            have : ¬ x.1 = ky := fun q => m (List.mem_map.mpr ⟨x, hx, q⟩)
            rw [if_neg this]
            rfl
          rw [e]
    · rw [if_neg z]
      have m : ky ∈ kvs.map (·.1) := by
        rw [List.map_cons] at h
        exact (List.mem_cons.mp h).resolve_left fun q => z q.symm
      have := ih m
      rw [List.find?_cons]
      by_cases y : kv.1 = j
      · rw [show decide (kv.1 = j) = true from decide_eq_true y, if_neg (fun q => z (y.trans q))]
      · rw [show decide (kv.1 = j) = false from decide_eq_false y]
        exact this
section
variable {X : Cx} {Ff : Addr → Prop} {S : Sta} {D : AE} {o i e : Expr} {x : Str} {pos pos' p : Pos} {q : Addr} {kvs : List (NK × Ab)} {ky : NK} {R : Ab → Prop} {k : Nat}
theorem repN_all {K : PySem.W.Frag} {G : Hp} {v : V} {a : Ab} (rv : Rep K G v a) : ∀ {xs : List (NK × Addr × V)} {kvs : List (NK × Ab)}, xs.map (·.1) = kvs.map (·.1) → RepAll K G (xs.map (·.2.2)) (kvs.map (·.2)) →
    (xs.map (repN ky v)).map (·.1) = (setN kvs ky a).map (·.1) ∧ RepAll K G ((xs.map (repN ky v)).map (·.2.2)) ((setN kvs ky a).map (·.2))
  | [], [], _, _ => ⟨rfl, trivial⟩
  | x :: xs, kv :: kvs, e, r => by
    rw [List.map_cons, List.map_cons] at e
    obtain ⟨e1, e2⟩ := List.cons.inj e
    rw [List.map_cons, List.map_cons] at r
    obtain ⟨h1, h2⟩ := repN_all rv e2 r.2
    unfold setN at *
    simp only [List.map_cons]
    rw [h1]
    by_cases z : kv.1 = ky
    · have z2 : x.1 = ky := e1.trans z
      refine ⟨?_, ?_⟩
      · rw [if_pos z]
        unfold repN
        rw [if_pos z2, z2]
      · unfold repN
        rw [if_pos z, if_pos z2]
        exact ⟨rv, h2⟩
    · have z2 : ¬ x.1 = ky := fun q => z (e1 ▸ q)
      refine ⟨?_, ?_⟩
      · rw [if_neg z]
        unfold repN
        rw [if_neg z2, e1]
      · unfold repN
        rw [if_neg z, if_neg z2]
        exact ⟨r.1, h2⟩
  | [], _ :: _, e, _ => by cases e
  | _ :: _, [], e, _ => by cases e
theorem ds_nset (hu : X.A.units + 64 < cLine) (he : DE X S.rs S.M S.ρ e R) (ho : DE X S.rs S.M S.ρ o (Is (.at q))) (hi : DE X S.rs S.M S.ρ i (Is (.d (nkD ky)))) (hM : S.M[k]? = some ⟨q, true, .nd kvs⟩) (hl : kvs.length ≤ 100000) (hn : ky ∈ kvs.map (·.1))
    (kk : ∀ a, R a → D.nx ⟨S.rs, S.M.set k ⟨q, true, .nd (setN kvs ky a)⟩, S.ρ⟩) (hs : swapsWith e (some (.Subscript o i pos')) pos.line X.env = pure false := by rfl) : DS X Ff S (.Assign [.Subscript o i pos'] e pos) D := fun G0 H0 =>
  ps_weak (ps_nset hu ho hi he hs) fun De σ H ⟨G, s, nx, _⟩ => ⟨G, s.loc, s.ok, fun v a G1 H1 ra rep1 n1 => by
    have s1 := s.nxt n1
    refine ⟨G1, s1.loc, s1.ok, fun u z G2 H2 rz rep2 n2 => ?_⟩
    subst rz
    have rep2 : u = .ref q := rep2
    subst rep2
    have s2 := s1.nxt n2
    refine ⟨G2, s2.loc, s2.ok, fun y c G3 H3 rc rep3 n3 => ?_⟩
    subst rc
    have s3 := s2.nxt n3
    obtain ⟨_, _, xs, e1, e2, e3, e4, e5⟩ := s3.ok.m _ (List.mem_of_getElem? hM)
    have hlen : xs.length = kvs.length := by rw [← List.length_map (f := (·.1)), e3, List.length_map]
    refine ⟨G3, q, xs, ky, s3.ok.gh, rfl, e1, e5, by omega, rep3, by rw [e3]; exact hn, ?_⟩
    have rv := rep1.same (n2.g.trans n3.g)
    refine nx _ σ G3 _ (kk a ra) (s3.chg (u := NdO q (xs.map (repN ky v))) hM ⟨_, upd_same, e2, (repN_all rv e3 e4).1, (repN_all rv e3 e4).2, fun x hx => ?_⟩)
    obtain ⟨x0, hx0, rfl⟩ := List.mem_map.mp hx
    have : (repN ky v x0).2.1 = x0.2.1 ∧ (repN ky v x0).1 = x0.1 := by
      unfold repN
      split <;> exact ⟨rfl, rfl⟩
    rw [this.1, this.2]
    exact e5 x0 hx0⟩
end
section
variable {X : Cx} {Ff : Addr → Prop} {D : AE} {rs : Rs} {M : Mem} {ρ : List (Option Ab)} {sts : List Stmt}
/-- such a dict of our own is read only from here on -/
theorem ds_freezeN {i : Nat} {q : Addr} {kvs : List (NK × Ab)} (h : ρ[i]? = some (some (.at q))) (hF : ∀ b, Ff b → rs.F b) (run : DSs X Ff ⟨rs, M, ρ.set i (some (aRows X.K kvs))⟩ sts D) : DSs X Ff ⟨rs, ⟨q, true, .nd kvs⟩ :: M, ρ⟩ sts D := fun G0 H0 =>
  pss_weak (run G0 H0) fun De σ H ⟨G, s, rest⟩ => by
    obtain ⟨v, e, rep⟩ := s.loc.get h
    have rep : v = .ref q := rep
    subst rep
    obtain ⟨g1, nf, xs, e1, e2, e3, e4, e5⟩ := s.ok.m _ List.mem_cons_self
    have g1 : G q = none := g1
    have e1 : H q = some (NdO q xs) := e1
    have h0 : H0.1 q = none := by
      rcases s.own _ List.mem_cons_self rfl with z | z
      · exact z
      · exact absurd (hF q z) nf
    have up : Same G (upd G q (NdO q xs)) := fun b u eb => by
      rw [upd_ne (ne_of_none eb g1)]
      exact eb
    have out : ∀ e ∈ M, e.p ≠ q := fun e he z => by
      obtain ⟨j, hj⟩ := List.mem_iff_getElem?.mp he
      have := s.ok.nd (j + 1) 0 e _ hj rfl z
      omega
    have es : σ.set i (some (.ref q)) = σ := by
      refine List.ext_getElem? fun k => ?_
      by_cases z : k = i
      · rw [z, List.getElem?_set_self (List.getElem?_eq_some_iff.mp e).1, e]
      · rw [List.getElem?_set_ne (fun y => z y.symm)]
    have loc : Loc X.K (upd G q (NdO q xs)) σ (ρ.set i (some (aRows X.K kvs))) := by
      have := (s.loc.same up).set (v := .ref q) (a := aRows X.K kvs) ⟨_, Same.refl _, q, rfl, xs, upd_same, e2, e3, e4.same up, fun x hx => dp_same up _ _ (e5 x hx)⟩ i
      rwa [es] at this
    refine ⟨upd G q (NdO q xs), ⟨loc, ⟨fun b u eb => ?_, fun b f => ?_, s.ok.i, fun e he => ?_, fun j k e f h1 h2 h3 => ?_⟩, ⟨s.lie.g.trans up, s.lie.h, s.lie.al, fun b u eb => ?_⟩, fun e he hm => s.own e (List.mem_cons_of_mem _ he) hm, s.fr⟩, rest⟩
    · by_cases hb : b = q
      · subst hb
        rw [upd_same] at eb
        rw [e1, eb]
      · rw [upd_ne hb] at eb
        exact s.ok.gh _ _ eb
    · rw [upd_ne (show b ≠ q from fun z => nf (show rs.F q from z ▸ f))]
      exact s.ok.sep b f
    · obtain ⟨a1, a2, a3⟩ := s.ok.m e (List.mem_cons_of_mem _ he)
      exact ⟨by rw [upd_ne (out e he)]; exact a1, a2, a3.same up fun o ho => ho⟩
    · have := s.ok.nd (j + 1) (k + 1) e f h1 h2 h3
      omega
    · by_cases hb : b = q
      · subst hb
        exact .inr h0
      · rw [upd_ne hb] at eb
        exact s.lie.nw _ _ eb
end
end HW
/-! Own layer, part Tu: calls beside tables whose promise tells more than is asked. -/
namespace HW
open PySem PySem.Spec PyProof.Rows L2 RZ
section
variable {X : Cx} {rs : Rs} {T : TabL} {M : Mem} {ρ : List (Option Ab)} {e : Expr} {es : List Expr} {x : Str} {p pos : Pos} {R : Ab → Prop}
theorem de_callFI {U : List Ab → Prop} {S : Rs → Mem → List Ab → (Ab → Prop) → Prop} {CX : CXT} {k : Nat} {f : Addr} {fd : FuncData} {ps : List Str} {E : XK} (nt : NoTab rs) (F : FnG X.prog X.w X.K X.mg X.base CX k f fd ps (Spec X.K S)) (hr : Room k X.A) (gd : X.A.guards = some []) (hg : Gl X x) (hm : X.mg x = some (.ref f))
    (hk : PySem.W.keepIn X.K (.ref f) = true) (hb : Binds X.K fd ps []) (hx : Passes CX X E) (ha : DA X (tRs rs T) M ρ (e :: es) U) (h : ∀ as, U as → ∃ R0, S rs [] as R0 ∧ ∀ a, R0 a → R a)
    (hdb : (x == ("__debug__" : Str)) = false := by decide) (he : starEach (e :: es) X.env = (false, eval e X.env) :: starEach es X.env := by rfl) (hpl : (backTo pos (starEach es X.env)).any (·.1) = false := by rfl) : DE X (tRs rs T) M ρ (.Call (.Name x p) (e :: es) [] pos) R :=
  de_callF (E := E) (S := fun rs M as R => ∃ R0, S rs M as R0 ∧ ∀ a, R0 a → R a) nt (F.imp fun vs H Q E ⟨rs, M, as, R, G, ⟨R0, t, w⟩, mu, rep, ok, kk⟩ => ⟨rs, M, as, R0, G, t, mu, rep, ok, fun z a G' H' r => kk z a G' H' (w a r)⟩) hr gd hg hm hk hb hx ha h hdb he hpl
end
end HW
/-! Own layer, part Tv: all(list of bools). -/
namespace HW
open PySem PySem.Spec PyProof.Rows L2 RZ
theorem repAll_bools {K : PySem.W.Frag} {G : Hp} : ∀ {bs : List Bool} {vs : List V}, RepAll K G vs ((bs.map PyData.bool).map .d) → vs = bs.map V.bl
  | [], [], _ => rfl
  | [], _ :: _, h => h.elim
  | _ :: _, [], h => h.elim
  | b :: bs, v :: vs, ⟨h1, h2⟩ => by
    have h1 : Dp K G v (.bool b) := h1
    cases h1
    rw [List.map_cons, repAll_bools h2]
section
variable {X : Cx} {rs : Rs} {M : Mem} {ρ : List (Option Ab)} {e : Expr} {p pos : Pos}
theorem de_allL {bs : List Bool} (hc : X.calm = true) (hm : X.mg "all" = none) (ha : DE X rs M ρ e (Is (aL (bs.map .bool)))) (hg : Gl X "all" := by rfl) (he : starEach [e] X.env = (false, eval e X.env) :: starEach [] X.env := by rfl) : DE X rs M ρ (.Call (.Name "all" p) [e] [] pos) (Is (aB (bs.all id))) :=
  de_callB (cr_all hc) hg hm (by decide +kernel) (da_cons ha da_nil he) (fun as e1 => fun G H v Q ok reps k => by
    subst e1
    obtain ⟨v, rfl, rv⟩ := repAll_one reps
    obtain ⟨q, us, rfl, sq, ra⟩ := (seqM_l (K := X.K) (rs := rs) (M := M) (bs.map .bool)).l.get ok rv
    have eu := repAll_bools ra
    subst eu
    exact ⟨q, bs, rfl, sq, k _ _ G H rfl (Dp.bl _) (Nxt.rfl ok)⟩) (hs := he)
end
end HW
/-! Own layer, part Tw: repr of a bool; `is not True`. -/
namespace HW
open PySem PySem.Spec PyProof.Rows L2 RZ
section
variable {X : Cx} {rs : Rs} {M : Mem} {ρ : List (Option Ab)} {e a : Expr} {pos p : Pos} {c : Bool}
def rReprB : List V → Hp → VK → Prop := fun xs H Q => ∃ c : Bool, xs = [.bl c] ∧ Q (.str (if c then "True" else "False")) H
theorem cr_reprB : CallR X (.builtin "repr") rReprB := by
  intro pins s σ H xs us Q I r h
  obtain ⟨c, rfl, q⟩ := h
  obtain ⟨u, rfl, ru⟩ := vals1 r
  have ru : u = Value.bool c := ru
  subst ru
  exact PySem.P.repr_of_bool ⟨.str _, H, I.tok _, ⟨_, rfl⟩, q⟩
theorem de_reprB (hm : X.mg "repr" = none) (ha : DE X rs M ρ e (Is (aB c))) (hg : Gl X "repr" := by rfl)
    (he : starEach [e] X.env = (false, eval e X.env) :: starEach [] X.env := by rfl) : DE X rs M ρ (.Call (.Name "repr" p) [e] [] pos) (Is (aS (if c then "True" else "False"))) :=
  de_callB cr_reprB hg hm (by decide +kernel) (da_cons ha da_nil he) (fun as e1 => fun G H vs Q ok reps k => by
    subst e1
    match vs, reps with
    | [v], ⟨r, _⟩ => exact ⟨c, by rw [rep_bl r], k _ _ G H rfl (Dp.str _) (Nxt.rfl ok)⟩) (hs := he)
theorem repr_inj {c e : Bool} : decide ((if c then ("True" : Str) else "False") = (if e then "True" else "False")) = decide (c = e) := by
  cases c <;> cases e <;> decide
theorem dt_isnotTrue {q : Nat} (ha : DE X rs M ρ a (Is (aB c))) : DT X rs M ρ (.Compare a [.IsNot] [.Constant (.bool true) q p] pos) (fun t => t = !c) :=
  dt_cmp op_isnot_bl ha de_bl (fun y z e1 e2 => by
    subst e1 e2
    refine fun G H v u Q ok r1 r2 k => ⟨c, true, rep_bl r1, rep_bl r2, ?_⟩
    refine k _ _ G H ⟨_, rfl, ?_⟩ (Dp.bl _) (Nxt.rfl ok)
    cases c <;> rfl) (nomark _)
end
end HW
/-! Own layer, part Tx: what tables of deeds of a language keep, one behind another and undone. -/
namespace HW
open PySem PySem.Spec PyProof.Rows L2 RZ
section
variable {v n : Nat} {ts us : List Nat} {k : Nat} {low : List Int}
/-! ### turns of a bit are even -/
theorem flipL_len (n i : Nat) (g : Nat → Bool) : (flipL n i g).length = 2 ^ n := by
  unfold flipL
  rw [List.length_map, List.length_range]
theorem flipL_get {n i c : Nat} (g : Nat → Bool) (hc : c < 2 ^ n) : (flipL n i g).getD c 0 = if g c then c ^^^ 2 ^ i else c := by
  unfold flipL
  rw [List.getD_eq_getElem?_getD, List.getElem?_map, List.getElem?_range hc]
  rfl
theorem xor_self2 (c m : Nat) : c ^^^ m ^^^ m = c := by rw [Nat.xor_assoc, Nat.xor_self, Nat.xor_zero]
theorem flipL_isP {n i : Nat} {g : Nat → Bool} (hi : i < n) (hg : ∀ c, c < 2 ^ n → g (c ^^^ 2 ^ i) = g c) : IsP (2 ^ n) (flipL n i g) := by
  refine ⟨flipL_len n i g, ?_, fun x hx => ?_⟩
  · refine nodup_map_of fun a b ha hb e => ?_
    by_cases z1 : g a = true
    · by_cases z2 : g b = true
      · rw [if_pos z1, if_pos z2] at e
        rw [← xor_self2 a (2 ^ i), e, xor_self2]
      · rw [if_pos z1, if_neg z2] at e
        rw [← e, hg a ha] at z2
        exact absurd z1 z2
    · by_cases z2 : g b = true
      · rw [if_neg z1, if_pos z2] at e
        rw [e, hg b hb] at z1
        exact absurd z2 z1
      · rw [if_neg z1, if_neg z2] at e
        exact e
  · obtain ⟨c, hc, rfl⟩ := List.mem_map.mp hx
    have hc := List.mem_range.mp hc
    split
    · exact xor_pow_lt hc hi
    · exact hc
theorem tb_same {c m i : Nat} (h : m ≠ i) : (c ^^^ 2 ^ i).testBit m = c.testBit m := by
  rw [Nat.testBit_xor, Nat.testBit_two_pow_of_ne (fun e => h e.symm), Bool.xor_false]
theorem tb_turn {c m : Nat} : (c ^^^ 2 ^ m).testBit m = !c.testBit m := by
  rw [Nat.testBit_xor, Nat.testBit_two_pow_self]
  cases c.testBit m <;> rfl
theorem flip_even {n i m : Nat} {g : Nat → Bool} (hi : i < n) (hm : m < n) (ne : i ≠ m) (hg : ∀ c, c < 2 ^ n → g (c ^^^ 2 ^ i) = g c) (hg2 : ∀ c, c < 2 ^ n → g (c ^^^ 2 ^ m) = g c) : par (flipL n i g) = 0 := by
  have p0 : IsP (2 ^ n) (flipL n i fun c => g c && !c.testBit m) := flipL_isP hi fun c hc => by rw [hg c hc, tb_same (fun e => ne e.symm)]
  have p1 : IsP (2 ^ n) (flipL n i fun c => g c && c.testBit m) := flipL_isP hi fun c hc => by rw [hg c hc, tb_same (fun e => ne e.symm)]
  have px : IsP (2 ^ n) (flipL n m fun _ => true) := flipL_isP hm fun c _ => rfl
  have e1 : flipL n i g = thnP (flipL n i fun c => g c && !c.testBit m) (flipL n i fun c => g c && c.testBit m) := by
    refine ext_getD (by rw [flipL_len, thnP_len, flipL_len]) fun c hc => ?_
    rw [flipL_len] at hc
    rw [thnP_get (by rw [flipL_len]; exact hc), flipL_get _ hc, flipL_get _ hc]
    by_cases z : g c = true
    · by_cases q : c.testBit m = true
      · rw [if_pos z, if_neg (by rw [z, q]; decide), flipL_get _ hc, if_pos (by rw [z, q]; decide)]
      · have q : c.testBit m = false := by simpa using q
        rw [if_pos z, if_pos (by rw [z, q]; decide), flipL_get _ (xor_pow_lt hc hi), if_neg (by rw [tb_same (fun e => ne e.symm), q]; simp)]
    · have z : g c = false := by simpa using z
      rw [if_neg (by rw [z]; decide), if_neg (by rw [z]; simp), flipL_get _ hc, if_neg (by rw [z]; simp)]
  have e2 : (flipL n i fun c => g c && c.testBit m) = thnP (flipL n m fun _ => true) (thnP (flipL n i fun c => g c && !c.testBit m) (flipL n m fun _ => true)) := by
    refine ext_getD (by rw [flipL_len, thnP_len, flipL_len]) fun c hc => ?_
    rw [flipL_len] at hc
    have hc2 := xor_pow_lt hc hm
    rw [thnP_get (by rw [flipL_len]; exact hc), flipL_get _ hc, flipL_get _ hc, if_pos rfl, thnP_get (by rw [flipL_len]; exact hc2), flipL_get _ hc2]
    have e : (g (c ^^^ 2 ^ m) && !(c ^^^ 2 ^ m).testBit m) = (g c && c.testBit m) := by rw [hg2 c hc, tb_turn, Bool.not_not]
    by_cases z : (g c && c.testBit m) = true
    · rw [if_pos z, if_pos (e.trans z), flipL_get _ (xor_pow_lt hc2 hi), if_pos rfl, Nat.xor_assoc, Nat.xor_comm (2 ^ i), ← Nat.xor_assoc, xor_self2]
    · rw [if_neg z, if_neg (by rw [e]; exact z), flipL_get _ hc2, if_pos rfl, xor_self2]
  rw [e1, par_thnP p0 p1, e2, par_thnP px (p0.thnP px), par_thnP p0 px]
  have := par_lt (flipL n i fun c => g c && !c.testBit m)
  have := par_lt (flipL n m fun _ => true)
  omega
/-- a place that is none of three -/
theorem other3 {n : Nat} (hn : 4 ≤ n) (a b c : Nat) : ∃ m, m < n ∧ m ≠ a ∧ m ≠ b ∧ m ≠ c := by
  by_cases h0 : 0 ≠ a ∧ 0 ≠ b ∧ 0 ≠ c
  · exact ⟨0, by omega, h0⟩
  by_cases h1 : 1 ≠ a ∧ 1 ≠ b ∧ 1 ≠ c
  · exact ⟨1, by omega, h1⟩
  by_cases h2 : 2 ≠ a ∧ 2 ≠ b ∧ 2 ≠ c
  · exact ⟨2, by omega, h2⟩
  exact ⟨3, by omega, by omega, by omega, by omega⟩
/-- THE SIGN of a deed, for any number of words -/
theorem deed_signN {d : Dd} (n3 : 3 ≤ n) (hd : d.Ok n) (h2 : d.Two) (hl : low.length = n) (hw : InW k low) (hk : k < v) :
    par (movN v n (tabOf v n (d.act v 1)) k low) = if d.isAnd = true ∧ n = 3 then 1 else 0 := by
  by_cases h : n = 3
  · exact deed_sign (.inl h) hd h2 hl hw hk
  rw [if_neg (fun z => h z.2), deed_mov hd hl hw hk]
  have n4 : 4 ≤ n := by omega
  cases d with
  | add i j =>
    obtain ⟨m, hm, m1, m2, _⟩ := other3 n4 i j j
    exact flip_even hd.1 hm (fun e => m1 e.symm) (fun c _ => by show ((c ^^^ 2 ^ i).testBit j ^^ _) = (c.testBit j ^^ _); rw [tb_same (fun e => hd.2.2 e.symm)]) (fun c _ => by show ((c ^^^ 2 ^ m).testBit j ^^ _) = (c.testBit j ^^ _); rw [tb_same (fun e => m2 e.symm)])
  | xor i j =>
    obtain ⟨m, hm, m1, m2, _⟩ := other3 n4 i j j
    exact flip_even hd.1 hm (fun e => m1 e.symm) (fun c _ => tb_same (fun e => hd.2.2 e.symm)) (fun c _ => tb_same (fun e => m2 e.symm))
  | one i =>
    obtain ⟨m, hm, m1, _, _⟩ := other3 n4 i i i
    exact flip_even hd hm (fun e => m1 e.symm) (fun c _ => rfl) (fun c _ => rfl)
  | and i j l =>
    obtain ⟨m, hm, m1, m2, m3⟩ := other3 n4 i j l
    exact flip_even hd.1 hm (fun e => m1 e.symm) (fun c _ => by show ((c ^^^ 2 ^ i).testBit j && (c ^^^ 2 ^ i).testBit l) = (c.testBit j && c.testBit l); rw [tb_same (fun e => hd.2.2.2.1 e.symm), tb_same (fun e => hd.2.2.2.2 e.symm)]) (fun c _ => by show ((c ^^^ 2 ^ m).testBit j && (c ^^^ 2 ^ m).testBit l) = (c.testBit j && c.testBit l); rw [tb_same (fun e => m2 e.symm), tb_same (fun e => m3 e.symm)])
/-! ### one behind another -/
theorem ColsP.thnP (a : ColsP v n ts) (b : ColsP v n us) (ht : IsP (2 ^ (n * v)) ts) : ColsP v n (thnP ts us) where
  go := fun x y k l h1 h2 h3 h4 hk hl e => by
    have i1 := img_in ht h1 h3
    have i2 := img_in ht h2 h4
    rw [img_thnP ht h1 h3, img_thnP ht h2 h4]
    exact b.go _ _ k l i1.1 i2.1 i1.2 i2.2 hk hl (a.go x y k l h1 h2 h3 h4 hk hl e)
  zero := fun x k h1 h3 hk e => by
    have i1 := img_in ht h1 h3
    rw [img_thnP ht h1 h3]
    exact b.zero _ k i1.1 i1.2 hk (a.zero x k h1 h3 hk e)
theorem DblP.thnP (a : DblP v n ts) (b : DblP v n us) (ht : IsP (2 ^ (n * v)) ts) : DblP v n (thnP ts us) := fun x hx => by
  have i1 := img_in ht hx.1 hx.2
  rw [img_thnP ht hx.1 hx.2, img_thnP ht ((dblL_len v x).trans hx.1) (dblL_in v x), a x hx, b _ i1]
theorem SgnP.thnP (a : SgnP v n ts) (b : SgnP v n us) (ta : Tri v n ts) (tb : Tri v n us) (ht : IsP (2 ^ (n * v)) ts) (hu : IsP (2 ^ (n * v)) us) : SgnP v n (thnP ts us) := fun k m low other hk hm sl so => by
  have e1 := sign_thnP ta tb ht hu sl.1 sl.2 hk
  have e2 := sign_thnP ta tb ht hu so.1 so.2 hm
  have st : ∀ {j : Nat} {w : List Int}, j < v → IsSt j n w → IsSt j n (lowL j (imgT v n ts w)) := fun {j w} hj hw => ⟨(lowL_len _ _).trans (img_in ht hw.1 (hw.2.up (Nat.le_of_lt hj))).1, lowL_in j _⟩
  have a1 := a k m low other hk hm sl so
  have b1 := b k m _ _ hk hm (st hk sl) (st hm so)
  rw [e1, e2, a1.1, b1.1]
  exact ⟨rfl, fun h => by rw [← a1.1, ← b1.1, a1.2 h, b1.2 h]⟩
theorem Fit.thnP {lang : Str} (v1 : 1 ≤ v) (a : Fit v n ts lang) (b : Fit v n us lang) (ht : IsP (2 ^ (n * v)) ts) (hu : IsP (2 ^ (n * v)) us) : Fit v n (thnP ts us) lang := by
  rcases a with ⟨el, ca, sa⟩ | ⟨el, ta, da, sa⟩ <;> rcases b with ⟨em, cb, sb⟩ | ⟨em, tb, db, sb⟩
  · refine .inl ⟨el, ca.thnP cb ht, fun h => ?_⟩
    have z := zero_st n
    have zz : lowL 0 (imgT v n ts (zeroL n)) = zeroL n := by
      have i := img_in ht z.1 (z.2.up (Nat.zero_le v))
      exact (low_zero i.1 z.1).trans (lowL_id z.2)
    rw [sign_thnP (ca.tri ht) (cb.tri hu) ht hu z.1 z.2 (by omega), zz, sa h, sb h]
  · exact absurd el em
  · exact absurd em el
  · exact .inr ⟨el, ta.thnP tb ht, fun h => (da h).thnP (db h) ht, sa.thnP sb ta tb ht hu⟩
theorem Fit.range {lang : Str} (v1 : 1 ≤ v) : Fit v n (List.range (2 ^ (n * v))) lang := by
  by_cases h : lang = "bits"
  · refine .inl ⟨h, ⟨fun x y k l h1 h2 h3 h4 _ _ e => by rw [img_range h1 h3, img_range h2 h4, e], fun x k h1 h3 _ e => by rw [img_range h1 h3, e]⟩, fun _ => ?_⟩
    have z := zero_st n
    rw [mov_range z.1 z.2 (by omega), par_range]
  · refine .inr ⟨h, Tri.range, fun _ x hx => by rw [img_range hx.1 hx.2, img_range ((dblL_len v x).trans hx.1) (dblL_in v x)], fun k m low other hk hm sl so => ?_⟩
    rw [mov_range sl.1 sl.2 hk, mov_range so.1 so.2 hm, par_range]
    exact ⟨rfl, fun _ => rfl⟩
/-! ### undone -/
theorem img_back (ht : IsP (2 ^ (n * v)) ts) {x : List Int} (hx : IsSt v n x) : imgT v n (backL ts (2 ^ (n * v))) (imgT v n ts x) = x := by
  rw [← img_thnP ht hx.1 hx.2, thnP_back ht, img_range hx.1 hx.2]
theorem img_fore (ht : IsP (2 ^ (n * v)) ts) {x : List Int} (hx : IsSt v n x) : imgT v n ts (imgT v n (backL ts (2 ^ (n * v))) x) = x := by
  rw [← img_thnP ht.back hx.1 hx.2, back_thnP ht, img_range hx.1 hx.2]
theorem img_col (t : Tri v n ts) (ht : IsP (2 ^ (n * v)) ts) {x : List Int} (hx : IsSt v n x) (hk : k < v) : colI (imgT v n ts x) k = (((movN v n ts k (lowL k x)).getD (colI x k).toNat 0 : Nat) : Int) := by
  have cl := col_lt (k := k) hx.1
  have st : IsSt v n (lowUp (colI x k) k (lowL k x)) := ⟨(lowUp_len _ _ _).trans ((lowL_len _ _).trans hx.1), lowUp_in (lowL_in k x) hk⟩
  have i1 := img_in ht hx.1 hx.2
  have i2 := img_in ht st.1 st.2
  rw [movN_get cl.1, cl.2, (col_lt (k := k) i2.1).2]
  have e := t (k + 1) hk x _ hx.1 st.1 hx.2 st.2 (by rw [← low_up x, lowL_low (Nat.le_refl _)])
  exact ((low_succ (i1.1.trans i2.1.symm)).mp e).2
theorem ColsP.back (c : ColsP v n ts) (ht : IsP (2 ^ (n * v)) ts) (v1 : 1 ≤ v) : ColsP v n (backL ts (2 ^ (n * v))) := by
  have t := c.tri ht
  have inj : ∀ (x y : List Int) (k l : Nat), IsSt v n x → IsSt v n y → k < v → l < v → colI (imgT v n ts x) k = colI (imgT v n ts y) l → colI x k = colI y l := fun x y k l hx hy hk hl e => by
    have z := zero_st n
    have cx := col_lt (k := k) hx.1
    have cy := col_lt (k := l) hy.1
    have P := mov_isP t ht z.1 z.2 (k := 0) (by omega)
    have one : ∀ {u : List Int} {j : Nat}, IsSt v n u → j < v → colI (imgT v n ts u) j = (((movN v n ts 0 (zeroL n)).getD (colI u j).toNat 0 : Nat) : Int) := fun {u j} hu hj => by
      have cu := col_lt (k := j) hu.1
      have st : IsSt v n (lowUp (colI u j) 0 (zeroL n)) := ⟨(lowUp_len _ _ _).trans z.1, lowUp_in z.2 (by omega)⟩
      have e := c.go u _ j 0 hu.1 st.1 hu.2 st.2 hj (by omega) (by rw [lowUp_col z.2 (by rw [z.1, ← cu.2]; exact cast_lt cu.1)])
      rw [movN_get cu.1, cu.2, (col_lt (k := 0) (img_in ht st.1 st.2).1).2]
      exact e
    rw [one hx hk, one hy hl] at e
    have := P.inj cx.1 cy.1 (by omega)
    rw [← cx.2, ← cy.2, this]
  constructor
  · intro x y k l h1 h2 h3 h4 hk hl e
    have i1 := img_in ht.back h1 h3
    have i2 := img_in ht.back h2 h4
    exact inj _ _ k l i1 i2 hk hl (by rw [img_fore ht ⟨h1, h3⟩, img_fore ht ⟨h2, h4⟩, e])
  · intro x k h1 h3 hk e
    have i1 := img_in ht.back h1 h3
    have z : IsSt v n (zeroL n) := ⟨(zero_st n).1, (zero_st n).2.up (Nat.zero_le v)⟩
    have cz : colI (zeroL n) k = 0 := by
      have e0 := lowUp_col (c := 0) (k := 0) (zero_st n).2 ⟨Int.le_refl _, two_pow_pos _⟩
      have : ∀ m : Nat, colI (zeroL n) m = 0 := fun m => by
        have hb := colI_range m (zeroL n)
        refine ext_bits (n := n) (by rw [(zero_st n).1] at hb; exact hb) ⟨Int.le_refl _, two_pow_pos _⟩ fun i hi => ?_
        have lz : i < (zeroL n).length := by rw [(zero_st n).1]; exact hi
        rw [bitI_col m _ i _ (List.getElem?_eq_getElem lz)]
        have : (zeroL n)[i] = 0 := List.eq_of_mem_replicate (List.getElem_mem lz)
        rw [this]
        simp [bitI]
      exact this k
    have := inj _ (zeroL n) k k i1 z hk hk (by rw [img_fore ht ⟨h1, h3⟩, e, c.zero _ k z.1 z.2 hk cz])
    rw [this, cz]
theorem Fit.back {lang : Str} (v1 : 1 ≤ v) (a : Fit v n ts lang) (ht : IsP (2 ^ (n * v)) ts) : Fit v n (backL ts (2 ^ (n * v))) lang := by
  have sgn : ∀ {k : Nat} {low : List Int}, Tri v n ts → k < v → IsSt k n low → ∃ low', IsSt k n low' ∧ par (movN v n (backL ts (2 ^ (n * v))) k low) = par (movN v n ts k low') := fun {k low} t hk sl => by
    have i := img_in ht.back sl.1 (sl.2.up (Nat.le_of_lt hk))
    have sl' : IsSt k n (lowL k (imgT v n (backL ts (2 ^ (n * v))) low)) := ⟨(lowL_len _ _).trans i.1, lowL_in k _⟩
    refine ⟨_, sl', ?_⟩
    rw [← sign_back t ht sl'.1 sl'.2 hk]
    congr 1
    congr 1
    have j := img_in ht sl'.1 (sl'.2.up (Nat.le_of_lt hk))
    have e := t k (Nat.le_of_lt hk) _ _ sl'.1 i.1 (sl'.2.up (Nat.le_of_lt hk)) i.2 (lowL_low (Nat.le_refl k) _)
    rw [e, img_fore ht ⟨sl.1, sl.2.up (Nat.le_of_lt hk)⟩, lowL_id sl.2]
  rcases a with ⟨el, ca, sa⟩ | ⟨el, ta, da, sa⟩
  · refine .inl ⟨el, ca.back ht v1, fun h => ?_⟩
    obtain ⟨low', sl', e⟩ := sgn (ca.tri ht) (k := 0) (by omega) (zero_st n)
    rw [e]
    have : low' = zeroL n := by
      have := low_zero (n := n) sl'.1 (zero_st n).1
      rw [lowL_id sl'.2, lowL_id (zero_st n).2] at this
      exact this
    rw [this, sa h]
  · refine .inr ⟨el, ta.back ht, fun h x hx => ?_, fun k m low other hk hm sl so => ?_⟩
    · have i := img_in ht.back hx.1 hx.2
      have e := da h _ i
      rw [img_fore ht hx] at e
      rw [← e, img_back ht ⟨(dblL_len v _).trans i.1, dblL_in v _⟩]
    · obtain ⟨l1, s1, e1⟩ := sgn ta hk sl
      obtain ⟨l2, s2, e2⟩ := sgn ta hm so
      rw [e1, e2]
      exact sa k m l1 l2 hk hm s1 s2
/-! ### deeds -/
def Dd.inL (lang : Str) (d : Dd) : Prop := d.word ∈ (["xor", "and"] : List Str) ∨ (d.word = "add" ∧ lang ≠ "bits") ∨ (d.word = "one" ∧ lang ≠ "bits" ∧ lang ≠ "sums")
theorem bx_dbl {x y : Int} (hx : 0 ≤ x) (hy : 0 ≤ y) : bx (x * 2) (y * 2) = bx x y * 2 := by
  unfold bx
  have e1 : (x * 2).toNat = x.toNat <<< 1 := by rw [Nat.shiftLeft_eq]; omega
  have e2 : (y * 2).toNat = y.toNat <<< 1 := by rw [Nat.shiftLeft_eq]; omega
  rw [e1, e2, ← Nat.shiftLeft_xor_distrib, Nat.shiftLeft_eq]
  omega
theorem ba_dbl {x y : Int} (hx : 0 ≤ x) (hy : 0 ≤ y) : ba (x * 2) (y * 2) = ba x y * 2 := by
  unfold ba
  have e1 : (x * 2).toNat = x.toNat <<< 1 := by rw [Nat.shiftLeft_eq]; omega
  have e2 : (y * 2).toNat = y.toNat <<< 1 := by rw [Nat.shiftLeft_eq]; omega
  rw [e1, e2, ← Nat.shiftLeft_and_distrib, Nat.shiftLeft_eq]
  omega
theorem dblL_getD (v : Nat) (ws : List Int) (i : Nat) : (dblL v ws).getD i 0 = ws.getD i 0 * 2 % 2 ^ v := by
  unfold dblL
  rw [List.getD_eq_getElem?_getD, List.getElem?_map, List.getD_eq_getElem?_getD]
  cases ws[i]? <;> simp
theorem new_dbl {d : Dd} {ws : List Int} (hw : InW v ws) (h1 : d.word ≠ "one") : d.new v 1 (dblL v ws) = d.new v 1 ws * 2 % 2 ^ v := by
  have p := two_pow_pos v
  cases d with
  | add i j =>
    show ((dblL v ws).getD i 0 + 1 * (dblL v ws).getD j 0) % 2 ^ v = (ws.getD i 0 + 1 * ws.getD j 0) % 2 ^ v * 2 % 2 ^ v
    have e : ∀ z : Int, z % 2 ^ v * 2 % 2 ^ v = z * 2 % 2 ^ v := fun z => by rw [Int.mul_emod, Int.emod_emod_of_dvd _ (Int.dvd_refl _), ← Int.mul_emod]
    rw [dblL_getD, dblL_getD, Int.one_mul, Int.one_mul, e, ← Int.add_emod, ← Int.add_mul]
  | xor i j =>
    show bx ((dblL v ws).getD i 0) ((dblL v ws).getD j 0) = bx (ws.getD i 0) (ws.getD j 0) * 2 % 2 ^ v
    have a := (hw.get i).1
    have b := (hw.get j).1
    rw [dblL_getD, dblL_getD, ← bx_mod (by omega) (by omega), bx_dbl a b]
  | and i j l =>
    show bx ((dblL v ws).getD i 0) (ba ((dblL v ws).getD j 0) ((dblL v ws).getD l 0)) = bx (ws.getD i 0) (ba (ws.getD j 0) (ws.getD l 0)) * 2 % 2 ^ v
    have a := (hw.get i).1
    have b := (hw.get j).1
    have c := (hw.get l).1
    rw [dblL_getD, dblL_getD, dblL_getD, ← ba_mod (by omega) (by omega), ba_dbl b c, ← bx_mod (by omega) (by have := ba_nn (ws.getD j 0) (ws.getD l 0); omega), bx_dbl a (ba_nn _ _)]
  | one i => exact absurd rfl h1
theorem deed_dbl {d : Dd} (hd : d.Ok n) (h1 : d.word ≠ "one") : DblP v n (tabOf v n (d.act v 1)) := fun x hx => by
  have m := deed_map (v := v) hd
  rw [tabOf_img m ((dblL_len v x).trans hx.1) (dblL_in v x), tabOf_img m hx.1 hx.2]
  unfold Dd.act
  rw [new_dbl hx.2 h1]
  unfold dblL
  rw [List.map_set]
theorem deed_cols {d : Dd} (hd : d.Ok n) (h1 : d.word ∈ (["xor", "and"] : List Str)) : ColsP v n (tabOf v n (d.act v 1)) := by
  have m := deed_map (v := v) hd
  have P := tabOf_isP m
  have T := tabOf_tri m
  have hp := d.pl_lt hd
  have g0 : ∀ (k : Nat) (low : List Int), d.g k low = d.g 0 [] := fun k low => by
    cases d with
    | xor i j => rfl
    | and i j l => rfl
    | add i j => exact absurd h1 (by show ¬ ("add" : Str) ∈ (["xor", "and"] : List Str); decide)
    | one i => exact absurd h1 (by show ¬ ("one" : Str) ∈ (["xor", "and"] : List Str); decide)
  have col : ∀ {x : List Int} {k : Nat}, IsSt v n x → k < v → colI (imgT v n (tabOf v n (d.act v 1)) x) k = (((flipL n d.pl (d.g 0 [])).getD (colI x k).toNat 0 : Nat) : Int) := fun {x k} hx hk => by
    rw [img_col T P hx hk, deed_mov hd ((lowL_len _ _).trans hx.1) (lowL_in k x) hk, g0]
  have gz : d.g 0 [] 0 = false := by
    cases d with
    | xor i j => exact Nat.zero_testBit j
    | and i j l => show ((0 : Nat).testBit j && (0 : Nat).testBit l) = false; rw [Nat.zero_testBit]; rfl
    | add i j => exact absurd h1 (by show ¬ ("add" : Str) ∈ (["xor", "and"] : List Str); decide)
    | one i => exact absurd h1 (by show ¬ ("one" : Str) ∈ (["xor", "and"] : List Str); decide)
  constructor
  · intro x y k l h1 h2 h3 h4 hk hl e
    rw [col ⟨h1, h3⟩ hk, col ⟨h2, h4⟩ hl, e]
  · intro x k h1 h3 hk e
    rw [col ⟨h1, h3⟩ hk, e]
    show (((flipL n d.pl (d.g 0 [])).getD 0 0 : Nat) : Int) = 0
    rw [flipL_get _ (Nat.two_pow_pos n), gz]
    rfl
theorem deed_fit {d : Dd} {lang : Str} (v1 : 1 ≤ v) (n3 : 3 ≤ n) (hd : d.Ok n) (h2 : d.Two) (hl : d.inL lang) : Fit v n (tabOf v n (d.act v 1)) lang := by
  have m := deed_map (v := v) hd
  by_cases el : lang = "bits"
  · have h1 : d.word ∈ (["xor", "and"] : List Str) := by
      rcases hl with h | ⟨_, h⟩ | ⟨_, h, _⟩
      · exact h
      · exact absurd el h
      · exact absurd el h
    refine .inl ⟨el, deed_cols hd h1, fun h => ?_⟩
    rw [deed_signN n3 hd h2 (zero_st n).1 (zero_st n).2 (by omega), if_neg (fun z => by omega)]
  · refine .inr ⟨el, tabOf_tri m, fun es => deed_dbl hd fun z => ?_, fun k m low other hk hm sl so => ?_⟩
    · rcases hl with h | ⟨h, _⟩ | ⟨_, _, h⟩
      · rw [z] at h
        exact absurd h (by decide)
      · rw [z] at h
        exact absurd h (by decide)
      · exact h es
    · rw [deed_signN n3 hd h2 sl.1 sl.2 hk, deed_signN n3 hd h2 so.1 so.2 hm]
      exact ⟨rfl, fun h => if_neg fun z => by omega⟩
end
end HW
/-! Own layer, part Ty: a list of one's own that is lent to an expression which only reads it. -/
namespace HW
open PySem PySem.Spec PyProof.Rows L2 RZ
def del (G : Hp) (q : Addr) : Hp := fun b => if b = q then none else G b
theorem del_ne {G : Hp} {q b : Addr} (h : b ≠ q) : del G q b = G b := if_neg h
mutual
def noL : PyData → Bool
  | .list _ => false
  | .tuple ds => noLs ds
  | _ => true
def noLs : List PyData → Bool
  | [] => true
  | d :: ds => noL d && noLs ds
end
/-- what a value stands for without the list at q -/
def Pur (a : Ab) : Prop := ∀ (K : PySem.W.Frag) (G : Hp) (v : V) (q : Addr) (vs : List V), G q = some (.lst vs) → Rep K G v a → Rep K (del G q) v a
theorem sqT_del {K : PySem.W.Frag} {G : Hp} {q a : Addr} {vs xs : List V} (hq : G q = some (.lst vs)) (h : SqT K G a xs) : SqT K (del G q) a xs := by
  rcases h with (h | ⟨o, h⟩) | h
  · refine .inl (.inl ?_)
    rw [del_ne]
    · exact h
    · rintro rfl
      rw [hq] at h
      cases h
  · refine .inl (.inr ⟨o, ?_⟩)
    rw [del_ne]
    · exact h
    · rintro rfl
      rw [hq] at h
      cases h
  · exact .inr h
mutual
theorem dp_del {K : PySem.W.Frag} {G : Hp} {q : Addr} {vs : List V} (hq : G q = some (.lst vs)) : ∀ (d : PyData) (v : V), noL d = true → Dp K G v d → Dp K (del G q) v d
  | .none, _, _, h => by cases h; exact .non
  | .bool _, _, _, h => by cases h; exact .bl _
  | .int _, _, _, h => by cases h; exact .int _
  | .str _, _, _, h => by cases h; exact .str _
  | .list ds, _, n, _ => by simp [noL] at n
  | .tuple ds, _, n, h => by
    cases h with
    | tup hs ha => exact .tup (sqT_del hq hs) (dps_del hq ds _ (by simpa [noL] using n) ha)
  | .dict _, _, _, h => by cases h
theorem dps_del {K : PySem.W.Frag} {G : Hp} {q : Addr} {vs : List V} (hq : G q = some (.lst vs)) : ∀ (ds : List PyData) (us : List V), noLs ds = true → DpAll K G us ds → DpAll K (del G q) us ds
  | [], _, _, h => by cases h; exact .nil
  | d :: ds, _, n, h => by
    simp only [noLs, Bool.and_eq_true] at n
    cases h with
    | cons h1 h2 => exact .cons (dp_del hq d _ n.1 h1) (dps_del hq ds _ n.2 h2)
end
theorem pur_d {d : PyData} (h : noL d = true) : Pur (.d d) := fun K G v q vs hq r => dp_del hq d v h r
theorem repAll_del {K : PySem.W.Frag} {G : Hp} {q : Addr} {vs : List V} (hq : G q = some (.lst vs)) : ∀ {us : List V} {as : List Ab}, (∀ a ∈ as, Pur a) → RepAll K G us as → RepAll K (del G q) us as
  | [], [], _, _ => trivial
  | u :: us, a :: as, h, ⟨r1, r2⟩ => ⟨h a List.mem_cons_self K G u q vs hq r1, repAll_del hq (fun b hb => h b (List.mem_cons_of_mem _ hb)) r2⟩
  | [], _ :: _, _, r => r.elim
  | _ :: _, [], _, r => r.elim
theorem pur_dct {K0 : PySem.W.Frag} {kvs : List (Key × Ab)} (h : ∀ x ∈ kvs, Pur x.2) : Pur (aDct K0 kvs) := fun K G v q vs hq r => by
  obtain ⟨G0, e0, q2, ev, us, h1, h2, h3⟩ := r
  have e1 : Same (del G0 q) (del G q) := fun b u e => by
    by_cases z : b = q
    · subst z
      simp [del] at e
    · rw [del_ne z] at e ⊢
      exact e0 _ _ e
  have ne : q2 ≠ q := by
    rintro rfl
    rw [e0 _ _ h1] at hq
    cases hq
  refine ⟨del G0 q, e1, q2, ev, us, by rw [del_ne ne]; exact h1, h2, ?_⟩
  cases z : G0 q with
  | none =>
    have : del G0 q = G0 := by
      funext b
      by_cases y : b = q
      · rw [y, z]
        simp [del]
      · exact del_ne y
    rw [this]
    exact h3
  | some o =>
    have hq0 : G0 q = some (.lst vs) := by
      rw [z, ← e0 _ _ z, hq]
    refine repAll_del hq0 (fun a ha => ?_) h3
    obtain ⟨x, hx, rfl⟩ := List.mem_map.mp ha
    exact h x hx
section
variable {X : Cx} {rs : Rs} {M : Mem} {ρ : List (Option Ab)} {e : Expr} {q : Addr} {b : Bool} {ds : List PyData} {i k : Nat} {R : Ab → Prop} {T : Bool → Prop}
theorem lend_start {σ : L2.St} {G H : Hp} (hi : ρ[i]? = some (some (.at q))) (hM : M[k]? = some ⟨q, b, .lst (ds.map .d)⟩) (l : Loc X.K G σ ρ) (ok : Ok X.K rs M G H) :
    ∃ vs, H q = some (.lst vs) ∧ G q = none ∧ ¬ rs.F q ∧ Loc X.K (upd G q (.lst vs)) σ (ρ.set i (some (aL ds))) ∧ Ok X.K rs (M.eraseIdx k) (upd G q (.lst vs)) H := by
  obtain ⟨g1, nf, vs, e1, ra⟩ := ok.m _ (List.mem_of_getElem? hM)
  have g1 : G q = none := g1
  have nf : ¬ rs.F q := nf
  have e1 : H q = some (.lst vs) := e1
  have up : Same G (upd G q (.lst vs)) := fun c u eb => by
    rw [upd_ne (ne_of_none eb g1)]
    exact eb
  obtain ⟨v, hv, rep⟩ := l.get hi
  have rep : v = .ref q := rep
  subst rep
  have es : σ.set i (some (.ref q)) = σ := by
    refine List.ext_getElem? fun j => ?_
    by_cases z : j = i
    · rw [z, List.getElem?_set_self (List.getElem?_eq_some_iff.mp hv).1, hv]
    · rw [List.getElem?_set_ne (fun y => z y.symm)]
  have kl := (List.getElem?_eq_some_iff.mp hM).1
  have at_ : ∀ j e, (M.eraseIdx k)[j]? = some e → ∃ j', M[j']? = some e ∧ j' ≠ k ∧ j' = if j < k then j else j + 1 := fun j e h => by
    rw [List.getElem?_eraseIdx] at h
    by_cases z : j < k
    · rw [if_pos z] at h
      exact ⟨j, h, by omega, by rw [if_pos z]⟩
    · rw [if_neg z] at h
      exact ⟨j + 1, h, by omega, by rw [if_neg z]⟩
  have out : ∀ e ∈ M.eraseIdx k, e ∈ M ∧ e.p ≠ q := fun e he => by
    obtain ⟨j, hj⟩ := List.mem_iff_getElem?.mp he
    obtain ⟨j', hj', nk, _⟩ := at_ j e hj
    refine ⟨List.mem_of_getElem? hj', fun z => nk ?_⟩
    exact ok.nd j' k e _ hj' hM z
  refine ⟨vs, e1, g1, nf, ?_, ⟨fun c u eb => ?_, fun c f => ?_, ok.i, fun e he => ?_, fun j j2 e f h1 h2 h3 => ?_⟩⟩
  · have := (l.same up).set (v := .ref q) (a := aL ds) (Dp.lst upd_same (dpAll_same up _ _ (repAll_dp.mp ra))) i
    rwa [es] at this
  · by_cases hb : c = q
    · subst hb
      rw [upd_same] at eb
      rw [e1, eb]
    · rw [upd_ne hb] at eb
      exact ok.gh _ _ eb
  · rw [upd_ne (show c ≠ q from fun z => nf (z ▸ f))]
    exact ok.sep c f
  · obtain ⟨he, hp⟩ := out e he
    obtain ⟨a1, a2, a3⟩ := ok.m e he
    exact ⟨by rw [upd_ne hp]; exact a1, a2, a3.same up fun o ho => ho⟩
  · obtain ⟨j', hj', _, ej⟩ := at_ j e h1
    obtain ⟨k', hk', _, ek⟩ := at_ j2 f h2
    have := ok.nd j' k' e f hj' hk' h3
    rw [ej, ek] at this
    split at this <;> split at this <;> omega
theorem lend_end {G H G2 H2 : Hp} {vs : List V} (g1 : G q = none) (h1 : H q = some (.lst vs)) (n : Nxt rs (upd G q (.lst vs)) H G2 H2) : Nxt rs G H (del G2 q) H2 where
  g := fun c u e => by
    have ne := ne_of_none e g1
    rw [del_ne ne]
    exact n.g _ _ (by rw [upd_ne ne]; exact e)
  gh := fun c u e => by
    by_cases z : c = q
    · subst z
      simp [del] at e
    · rw [del_ne z] at e
      exact n.gh _ _ e
  h := n.h
  nw := fun c u e => by
    by_cases z : c = q
    · subst z
      simp [del] at e
    · rw [del_ne z] at e
      rcases n.nw _ _ e with h | h
      · rw [upd_ne z] at h
        exact .inl h
      · exact .inr h
  i := n.i
/-- an own list lent to an expression -/
theorem de_lend (i k : Nat) (hi : ρ[i]? = some (some (.at q))) (hM : M[k]? = some ⟨q, b, .lst (ds.map .d)⟩) (h : DE X rs (M.eraseIdx k) (ρ.set i (some (aL ds))) e R) (pu : ∀ a, R a → Pur a) : DE X rs M ρ e R :=
  pe_weak h fun σ H Q ⟨G, l, ok, kk⟩ => by
    obtain ⟨vs, h1, g1, nf, l2, ok2⟩ := lend_start hi hM l ok
    refine ⟨_, l2, ok2, fun v a G2 H2 ra rep n => kk v a (del G2 q) H2 ra ?_ (lend_end g1 h1 n)⟩
    exact pu a ra X.K G2 v q vs (n.g _ _ upd_same) rep
theorem dt_lend (i k : Nat) (hi : ρ[i]? = some (some (.at q))) (hM : M[k]? = some ⟨q, b, .lst (ds.map .d)⟩) (h : DT X rs (M.eraseIdx k) (ρ.set i (some (aL ds))) e T) : DT X rs M ρ e T :=
  pt_weak h fun σ H Q ⟨G, l, ok, kk⟩ => by
    obtain ⟨vs, h1, g1, nf, l2, ok2⟩ := lend_start hi hM l ok
    exact ⟨_, l2, ok2, fun c G2 H2 rc n => kk c (del G2 q) H2 rc (lend_end g1 h1 n)⟩
end
end HW
/-! Own layer, part Tz: instances that no one changes any more: made, their fields read, their methods called. -/
namespace HW
open PySem PySem.Spec PyProof.Rows L2 RZ

/-- an instance of the class at C that no one changes any more, with these fields -/
def InsP (K : PySem.W.Frag) (C : Addr) (fs : List (Str × Ab)) (v : V) (G : Hp) : Prop := ∃ a dx vs, v = .ref a ∧ G a = some (.ins C dx vs) ∧ vs.map (·.1) = fs.map (·.1) ∧ RepAll K G (vs.map (·.2)) (fs.map (·.2))
abbrev aIns (K : PySem.W.Frag) (C : Addr) (fs : List (Str × Ab)) : Ab := .raw (InsP K C fs)
section
variable {K : PySem.W.Frag} {G G' : Hp} {C : Addr} {fs : List (Str × Ab)} {v : V}
theorem InsP.same (e : Same G G') (h : InsP K C fs v G) : InsP K C fs v G' := by
  obtain ⟨a, dx, vs, h1, h2, h3, h4⟩ := h
  exact ⟨a, dx, vs, h1, e _ _ h2, h3, h4.same e⟩
theorem rep_ins (h : Rep K G v (aIns K C fs)) : InsP K C fs v G := by
  obtain ⟨G0, e, h⟩ := h
  exact h.same e
theorem ins_rep (h : InsP K C fs v G) : Rep K G v (aIns K C fs) := ⟨G, Same.refl _, h⟩
theorem fld_some : ∀ {vs : List (Str × V)} {fs : List (Str × Ab)} {f : Str} {y : Ab}, vs.map (·.1) = fs.map (·.1) → RepAll K G (vs.map (·.2)) (fs.map (·.2)) → fs.lookup f = some y → ∃ u, vs.lookup f = some u ∧ Rep K G u y
  | [], [], _, _, _, _, h => by cases h
  | (g, u) :: vs, (g', z) :: fs, f, y, e, r, h => by
    rw [List.map_cons, List.map_cons] at e
    injection e with e1 e2
    have e1 : g = g' := e1
    subst e1
    rw [List.map_cons, List.map_cons] at r
    rw [List.lookup_cons] at h ⊢
    cases q : (f == g) with
    | true =>
      rw [q] at h
      cases Option.some.inj h
      exact ⟨u, rfl, r.1⟩
    | false =>
      rw [q] at h
      exact fld_some e2 r.2 h
  | [], _ :: _, _, _, e, _, _ => by cases e
  | _ :: _, [], _, _, e, _, _ => by cases e
theorem fld_none : ∀ {vs : List (Str × V)} {fs : List (Str × Ab)} {f : Str}, vs.map (·.1) = fs.map (·.1) → fs.lookup f = none → vs.lookup f = none
  | [], [], _, _, _ => rfl
  | (g, u) :: vs, (g', z) :: fs, f, e, h => by
    rw [List.map_cons, List.map_cons] at e
    injection e with e1 e2
    have e1 : g = g' := e1
    subst e1
    rw [List.lookup_cons] at h ⊢
    cases q : (f == g) with
    | true =>
      rw [q] at h
      cases h
    | false =>
      rw [q] at h
      exact fld_none e2 h
  | [], _ :: _, _, e, _ => by cases e
  | _ :: _, [], _, e, _ => by cases e
end
section
variable {X : Cx} {rs : Rs} {M M' : Mem} {ρ : List (Option Ab)} {o e : Expr} {es : List Expr} {C : Addr} {fs : List (Str × Ab)} {f m x : Str} {y : Ab} {R : Ab → Prop} {pos apos p : Pos} {CX : CXT} {k : Nat} {g : Addr} {fd : FuncData} {ps : List Str} {sp : Sp} {dvs : List V} {ds : List Value} {E : XK} {ta : TE} {t : TA}
theorem de_fld (c : Cls X.K C) (n : NoAttr X.K C f) (he : DE X rs M ρ e (Is (aIns X.K C fs))) (l : fs.lookup f = some y) (hb : attributeBase e f X.env (eval e X.env) = eval e X.env := by rfl) : DE X rs M ρ (.Attribute e f pos) (Is y) :=
  pe_weak (pe_fld he hb) fun σ H Q ⟨G, lo, ok, k⟩ => ⟨G, lo, ok, fun v a G1 H1 ra rep n1 => by
    subst ra
    obtain ⟨a, dx, vs, e1, e2, e3, e4⟩ := rep_ins rep
    obtain ⟨u, h1, h2⟩ := fld_some e3 e4 l
    exact ⟨a, C, dx, vs, u, e1, n1.gh _ _ e2, c, n, h1, k u y G1 H1 rfl h2 n1⟩⟩
theorem pe_methG {pl : Sem Bool} (he : PE X o ta) (c : Cls X.K C) (hm : Meth X.K C m g) (F : FnG X.prog X.w X.K X.mg X.base CX k g fd ps sp) (hr : Room k X.A) (gd : X.A.guards = some []) (hb : Binds X.K fd ps ds) (hd : Vals dvs ds) (hx : Passes CX X E) (ha : PA X (e :: es) t)
    (hst : starEach (e :: es) X.env = (false, eval e X.env) :: starEach es X.env := by rfl) (hpl : (backTo pos (starEach es X.env)).any (·.1) = false := by rfl)
    (ht : eval (.Call (.Attribute o m apos) (e :: es) [] pos) X.env = (do
      let ov ← eval o X.env
      standAt apos.atName
      let (f, first) ← holding [ov] (getMethod ov m pl)
      callWith pos f first (backTo pos (starEach (e :: es) X.env)) (backToKw pos (keywordEach [] X.env))) := by rfl) :
    PE X (.Call (.Attribute o m apos) (e :: es) [] pos) (tMeth C m sp dvs E ta t) := by
  refine ⟨fun pins s σ H Q I h => ?_⟩
  refine PySem.W.methodCall_KW (pl := pl) (thn (he.run pins s σ H _ I h) fun u s1 ⟨x, H1, I1, rx, a, dx, fs, ex, ea, l, q⟩ => ?_) ht
  subst ex
  obtain rfl : u = Value.ref a := rx
  refine getmeth_ok I1 ea c hm l ?_
  refine PySem.W.callWith_K (first := [.ref a]) (h₀ := X.base) I.ok.mod.kin hm.kp (thn (ha.run pos pins s1 σ H1 _ I1 q) fun us s2 ⟨vs, H2, I2, r, q2⟩ => ⟨I2.kIn, ?_⟩) hst hpl
  exact fnG_run (us := .ref a :: us) (vs := .ref a :: vs) F hr gd hb hd hx I2 (.cons rfl r) q2
theorem de_meth {pl : Sem Bool} {T : List Ab → Prop} {S : Rs → Mem → List Ab → (Ab → Prop) → Prop} (c : Cls X.K C) (hm : Meth X.K C m g) (F : FnG X.prog X.w X.K X.mg X.base CX k g fd ps (Spec X.K S)) (hr : Room k X.A) (gd : X.A.guards = some []) (hb : Binds X.K fd ps []) (hx : Passes CX X E)
    (he : DE X rs M ρ o (Is (aIns X.K C fs))) (l : fs.lookup m = none) (ha : DA X rs M ρ (e :: es) T) (h : ∀ as, T as → S rs [] (aIns X.K C fs :: as) R)
    (hst : starEach (e :: es) X.env = (false, eval e X.env) :: starEach es X.env := by rfl) (hpl : (backTo pos (starEach es X.env)).any (·.1) = false := by rfl)
    (ht : eval (.Call (.Attribute o m apos) (e :: es) [] pos) X.env = (do
      let ov ← eval o X.env
      standAt apos.atName
      let (f, first) ← holding [ov] (getMethod ov m pl)
      callWith pos f first (backTo pos (starEach (e :: es) X.env)) (backToKw pos (keywordEach [] X.env))) := by rfl) :
    DE X rs M ρ (.Call (.Attribute o m apos) (e :: es) [] pos) R :=
  pe_weak (pe_methG (E := E) (pl := pl) he c hm F hr gd hb .nil hx ha hst hpl ht) fun σ H Q ⟨G, lo, ok, k⟩ => tD_go lo ok fun v z G1 H1 rz rep1 l1 ok1 n1 => by
    subst rz
    obtain ⟨a, dx, vs, e1, e2, e3, e4⟩ := rep_ins rep1
    refine ⟨a, dx, vs, e1, n1.gh _ _ e2, fld_none e3 l, G1, l1, ok1, fun us as G2 H2 ra rep2 n2 => ?_⟩
    refine ⟨rs, [], _, R, G2, h as ra, fun _ z => absurd z List.not_mem_nil, ?_, (ok1.nxt n2).sub (fun _ z => absurd z List.not_mem_nil) (fun _ _ _ _ z => by simp at z), fun z y G3 H3 r rep3 n3 => k z y G3 H3 r rep3 (n1.trans (n2.trans n3 ok1) ok)⟩
    rw [List.append_nil]
    exact ⟨rep1.same n2.g, rep2⟩
end

/-! ### an instance made -/
section
variable {X : Cx} {rs : Rs} {M : Mem} {ρ : List (Option Ab)} {e : Expr} {es : List Expr} {C : Addr} {x : Str} {pos p : Pos} {CX : CXT} {k : Nat} {g : Addr} {fd : FuncData} {ps : List Str} {sp : Sp} {dvs : List V} {ds : List Value} {E : XK} {t : TA}
theorem run_makeG {pins : List (Addr × Obj)} {σ : L2.St} {H : Hp} {s : Shared} {Q : VK} {us : List Value} {vs : List V} (Mk_ : Mk X.K C g) (F : FnG X.prog X.w X.K X.mg X.base CX k g fd ps sp) (hr : Room (k + 1) X.A) (gd : X.A.guards = some []) (hb : Binds X.K fd ps ds) (hd : Vals dvs ds)
    (hx : Passes CX X E) (I : Inv X pins σ H s) (r : Vals vs us)
    (h : ∀ x dx, H x = none → H dx = none → dx ≠ x → sp (.ref x :: (vs ++ dvs)) (upd (upd H dx (.own x)) x (.ins C dx [])) (fun v H2 => v = .non ∧ Q (.ref x) H2) E) :
    wpAny (model X.prog X.w) X.A (call (.ref C) us) (EP X pins σ Q) X.xe s := by
  have hq := h (s.heap.objs.size + 1) s.heap.objs.size (I.hok.fresh (Nat.le_succ _)) (I.hok.fresh (Nat.le_refl _)) (Nat.ne_of_lt (Nat.lt_succ_self _))
  have I2 := Inv.made (C := C) I
  have r2 : Vals (V.ref (s.heap.objs.size + 1) :: (vs ++ dvs)) (Value.ref (s.heap.objs.size + 1) :: (us ++ ds)) := .cons rfl (r.append hd)
  have hl : (Value.ref (s.heap.objs.size + 1) :: us ++ ds).length = ps.length := by
    have e := r2.length
    rw [F.len _ _ _ _ hq] at e
    exact e.symm
  have gd2 : (X.A.under (.builtin "type.__call__" ⟨.ref C :: us, []⟩)).guards = some [] := by
    first | exact gd | (simp [Around.under, Code.weight, Code.isCreation, Code.isGuard, Code.isCaller, Code.frames, Code.isFrame, guardIds, gd])
  refine wpAny_call (make_map (f := g) I.kIn Mk_.makes Mk_.init (beq_iff_eq.mp Mk_.fn) (codeAny_mono (F.run _ X.stack _ _ ⟨Value.ref (s.heap.objs.size + 1) :: us, []⟩ (Value.ref (s.heap.objs.size + 1) :: (us ++ ds)) _ _ E (hr.make C us []) gd2
    (I2.env0.make C us []) (hb _ (Value.ref (s.heap.objs.size + 1) :: us) I2.kIn hl) r2 hq) fun r s' hq' => ?_))
  cases r with
  | error e => exact hx pins σ _ _ e s' I2 hq'
  | ok fl =>
    cases fl with
    | ret u =>
      obtain ⟨v, H', I3, rv, ev, q3⟩ := I2.after hq'
      subst ev
      exact ⟨rv, ⟨V.ref (s.heap.objs.size + 1), H', I3, rfl, q3⟩⟩
    | next => exact False.elim hq'
    | brk => exact False.elim hq'
    | cont => exact False.elim hq'
theorem pe_makeG (Mk_ : Mk X.K C g) (F : FnG X.prog X.w X.K X.mg X.base CX k g fd ps sp) (hr : Room (k + 1) X.A) (gd : X.A.guards = some []) (hg : Gl X x) (hm : X.mg x = some (.ref C)) (hb : Binds X.K fd ps ds) (hd : Vals dvs ds) (hx : Passes CX X E)
    (ha : PA X (e :: es) t) (hdb : (x == ("__debug__" : Str)) = false := by decide) (he : starEach (e :: es) X.env = (false, eval e X.env) :: starEach es X.env := by rfl) (hpl : (backTo pos (starEach es X.env)).any (·.1) = false := by rfl) :
    PE X (.Call (.Name x p) (e :: es) [] pos) (tMake C sp dvs E t) := by
  refine ⟨fun pins s σ H Q I h => ?_⟩
  refine wpAny_Call_Name_kw (ld_glob I hg hm ?_ hdb)
  refine PySem.W.callWith_K (h₀ := X.base) I.ok.mod.kin Mk_.kp (thn (ha.run pos pins s σ H _ I h) fun us s1 ⟨vs, H1, I1, r, q⟩ => ⟨I1.kIn, ?_⟩) he hpl
  exact run_makeG Mk_ F hr gd hb hd hx I1 r q
/-- __init__ that gives each field its parameter -/
def SpInit (C : Addr) (names : List Str) : Sp := fun vs H Q _ => ∃ a dx us, vs = .ref a :: us ∧ us.length = names.length ∧ H a = some (.ins C dx []) ∧ Q .non (upd H a (.ins C dx (names.zip us)))
theorem zip_fst : ∀ {α β : Type} {xs : List α} {ys : List β}, ys.length = xs.length → (xs.zip ys).map (·.1) = xs
  | _, _, [], [], _ => rfl
  | _, _, x :: xs, y :: ys, h => by
    rw [List.zip_cons_cons, List.map_cons, zip_fst (by simpa using h)]
  | _, _, [], _ :: _, h => by cases h
  | _, _, _ :: _, [], h => by cases h
theorem zip_snd : ∀ {α β : Type} {xs : List α} {ys : List β}, ys.length = xs.length → (xs.zip ys).map (·.2) = ys
  | _, _, [], [], _ => rfl
  | _, _, x :: xs, y :: ys, h => by
    rw [List.zip_cons_cons, List.map_cons, zip_snd (by simpa using h)]
  | _, _, [], _ :: _, h => by cases h
  | _, _, _ :: _, [], h => by cases h
theorem de_make {T : List Ab → Prop} {names : List Str} {R : Ab → Prop} (Mk_ : Mk X.K C g) (F : FnG X.prog X.w X.K X.mg X.base CX k g fd ps (SpInit C names)) (hr : Room (k + 1) X.A) (gd : X.A.guards = some []) (hg : Gl X x) (hm : X.mg x = some (.ref C)) (hb : Binds X.K fd ps []) (hx : Passes CX X E)
    (ha : DA X rs M ρ (e :: es) T) (h : ∀ as, T as → as.length = names.length ∧ R (aIns X.K C (names.zip as))) (hdb : (x == ("__debug__" : Str)) = false := by decide) (he : starEach (e :: es) X.env = (false, eval e X.env) :: starEach es X.env := by rfl) (hpl : (backTo pos (starEach es X.env)).any (·.1) = false := by rfl) :
    DE X rs M ρ (.Call (.Name x p) (e :: es) [] pos) R :=
  pe_weak (pe_makeG (E := E) Mk_ F hr gd hg hm hb .nil hx ha hdb he hpl) fun σ H Q ⟨G, lo, ok, k⟩ => ⟨G, lo, ok, fun us as G1 H1 ra rep n1 => fun y dy hy hdy ne => by
    obtain ⟨hl, hR⟩ := h as ra
    have ok1 := ok.nxt n1
    have lu : us.length = names.length := rep.length.trans hl
    refine ⟨y, dy, us, by rw [List.append_nil], lu, upd_same, rfl, ?_⟩
    rw [upd_upd]
    have n2 : Nxt rs G1 H1 G1 (upd H1 dy (.own y)) := Nxt.newM ok1 hdy
    have hy2 : upd H1 dy (.own y) y = none := by
      rw [upd_ne ne.symm]
      exact hy
    have n3 := Nxt.new (ok1.nxt n2) (o := .ins C dy (names.zip us)) hy2
    refine k _ (aIns X.K C (names.zip as)) _ _ hR (ins_rep ⟨y, dy, names.zip us, rfl, upd_same, ?_, ?_⟩) (n1.trans (n2.trans n3 ok1) ok)
    · rw [zip_fst lu, zip_fst hl]
    · rw [zip_snd lu, zip_snd hl]
      exact rep.same n3.g⟩
end
end HW
/-! Own layer, part La: a lambda that is kept in a field and called later. -/
namespace HW
open PySem PySem.Spec PyProof.Rows L2 RZ NdefX

def anyHO : HO := .ext fun _ => True
/-- the object at f is a lambda with this body -/
def FnLam (f : Addr) (F : NF) (body : Expr) : HO := .ext fun h => ∃ pm ctv : Value, h.get? f = some (PySem.W.kla_obj "<lambda>" F.qual F.params body F.scope F.cl pm F.c ctv)
theorem fnLam_ne {f : Addr} {F : NF} {body : Expr} (ps : Array Value) : FnLam f F body ≠ .tbl ps := fun z => by
  unfold FnLam at z
  cases z
/-- the words of a lambda -/
structure LF where
  qual : Str
  params : Arguments
  body : Expr
  scope : Scope
  x : Str
  fr : List Str
abbrev LF.nf (L : LF) (cl : List (Str × Addr)) (c : Addr) : NF := ⟨"<lambda>", L.qual, L.params, [], L.scope, cl, c⟩
/-- what the captured cells hold: one number, or there are none -/
def CellsIn (G : Hp) (fr : List Str) (cl : List (Str × Addr)) (ws : List Int) : Prop :=
  (fr = [] ∧ cl = [] ∧ ws = []) ∨ ∃ y c i o t, fr = [y] ∧ cl = [(y, c)] ∧ ws = [i] ∧ G c = some (.frz o anyHO) ∧ o.data = .cell (some (.int i t))
/-- a kept lambda: its cells hold ws -/
def KeptP (L : LF) (ws : List Int) (v : V) (G : Hp) : Prop := ∃ f c cl, v = .ref f ∧ G f = some (FnLam f (L.nf cl c) L.body) ∧ G c = some (LamX.CodeO c L.qual) ∧ CellsIn G L.fr cl ws
abbrev aKept (L : LF) (ws : List Int) : Ab := .raw (KeptP L ws)
theorem KeptP.same {G G' : Hp} (e : Same G G') {L : LF} {ws : List Int} {v : V} (h : KeptP L ws v G) : KeptP L ws v G' := by
  obtain ⟨f, c, cl, h1, h2, h3, h4⟩ := h
  refine ⟨f, c, cl, h1, e _ _ h2, e _ _ h3, ?_⟩
  rcases h4 with h | ⟨y, c', i, o, t, a1, a2, a3, a4, a5⟩
  · exact .inl h
  · exact .inr ⟨y, c', i, o, t, a1, a2, a3, e _ _ a4, a5⟩
/-- the lambda tells g of its number, wherever it is called -/
def Keeps (P : Program) (w : World) (K : PySem.W.Frag) (mg : Str → Option Value) (base : Heap) (k : Nat) (L : LF) (ws : List Int) (g : Int → Int) : Prop :=
  NScope (L.x :: L.fr) [L.x] L.fr L.scope ∧ (∀ (cl : List (Str × Addr)) (pm cd ctv v : Value), bindArgs (PySem.W.kla_fn "<lambda>" L.qual L.params L.body L.scope cl pm cd ctv) ⟨[v], []⟩ = pure [(L.x, v)]) ∧
  ∀ (F : NF) (f : Addr) (A : Around) (outer : List Env) (s : Shared) (H : Hp) (n : Int), F.scope = L.scope → Room k (A.deeper (envF F f s.heap.objs.size)) → A.guards = some [] →
    DE (ncx CX0 P w K mg base (L.x :: L.fr) F f A outer s H E0) rs0 [] (some (aI n) :: ws.map fun i => some (aI i)) L.body (Is (aI (g n)))
def drop (cl : List (Str × Addr)) (H : Hp) : Hp := fun b => if b ∈ cl.map (·.2) then none else H b
def back (cl : List (Str × Addr)) (H H1 : Hp) : Hp := fun b => if b ∈ cl.map (·.2) then H b else H1 b
theorem drop_in {cl : List (Str × Addr)} {H : Hp} {b : Addr} (h : b ∈ cl.map (·.2)) : drop cl H b = none := if_pos h
theorem drop_out {cl : List (Str × Addr)} {H : Hp} {b : Addr} (h : b ∉ cl.map (·.2)) : drop cl H b = H b := if_neg h
theorem back_in {cl : List (Str × Addr)} {H H1 : Hp} {b : Addr} (h : b ∈ cl.map (·.2)) : back cl H H1 b = H b := if_pos h
theorem back_out {cl : List (Str × Addr)} {H H1 : Hp} {b : Addr} (h : b ∉ cl.map (·.2)) : back cl H H1 b = H1 b := if_neg h
/-- what stands at the captured cells -/
theorem CellsIn.at_ {G : Hp} {fr : List Str} {cl : List (Str × Addr)} {ws : List Int} (h : CellsIn G fr cl ws) {b : Addr} (hb : b ∈ cl.map (·.2)) : ∃ o, G b = some (.frz o anyHO) ∧ ∃ v, o.data = .cell v := by
  rcases h with ⟨_, rfl, _⟩ | ⟨y, c, i, o, t, _, rfl, _, a4, a5⟩
  · exact absurd hb (by simp)
  · have e : b = c := by simpa using hb
    subst e
    exact ⟨o, a4, _, a5⟩
section
variable {X : Cx} {pins : List (Addr × Obj)} {σ : L2.St} {H : Hp} {s : Shared}
theorem lam_run {k : Nat} {L : LF} {ws : List Int} {g : Int → Int} {f c : Addr} {cl : List (Str × Addr)} {n : Int} {u : Value} {Q : VK} (W : Keeps X.prog X.w X.K X.mg X.base k L ws g) (hr : Room (k + 1) X.A) (gd : X.A.guards = some []) (I : Inv X pins σ H s) (hf : H f = some (FnLam f (L.nf cl c) L.body))
    (hc : H c = some (LamX.CodeO c L.qual)) (C : CellsIn H L.fr cl ws) (ru : RelV (.int n) u) (h : ∀ H1, (∀ b o, H b = some o → H1 b = some o) → Q (.int (g n)) H1) : wpAny (model X.prog X.w) X.A (call (.ref f) [u]) (EP X pins σ Q) X.xe s := by
  obtain ⟨S, bnd, body⟩ := W
  obtain ⟨⟨pm, ctv, of⟩, _, _⟩ := I.hok f _ hf
  have rc := codeO_at I.hok hc
  have hD : ∀ b, H b = none → drop cl H b = none := fun b e => by
    by_cases hb : b ∈ cl.map (·.2)
    · exact drop_in hb
    · rw [drop_out hb]
      exact e
  have frz_at : ∀ b, b ∈ cl.map (·.2) → ∃ o, H b = some (.frz o anyHO) ∧ ∃ v, o.data = .cell v := fun b hb => C.at_ hb
  have hk : HOk X.prog X.w (drop cl H) s.heap := fun b o e => by
    by_cases hb : b ∈ cl.map (·.2)
    · rw [drop_in hb] at e
      cases e
    · rw [drop_out hb] at e
      refine (I.hok b o e).stay (fun _ _ _ q => q) (fun d q => ?_) fun d xs q => ?_
      · rw [drop_out]
        · exact q
        · intro hd
          obtain ⟨o2, z, _⟩ := frz_at d hd
          rw [z] at q
          cases q
      · rw [drop_out]
        · exact q
        · intro hd
          obtain ⟨o2, z, _⟩ := frz_at d hd
          rw [z] at q
          cases q
  have e0 : Env0 X.prog X.w X.K X.mg X.base X.A X.stack s (drop cl H) :=
    ⟨I.env0.frames, I.env0.mod, fun b o e => ⟨(I.env0.bs b o e).1, hD b (I.env0.bs b o e).2⟩, I.env0.bsz, I.env0.funs, fun b hb => hD b (I.env0.frf b hb), hk, I.env0.bare⟩
  have CA : CellsAt cl L.fr (ws.map fun i => some (V.int i)) s.heap (drop cl H) := by
    rcases C with ⟨e1, rfl, rfl⟩ | ⟨y, c', i, o, t, e1, rfl, rfl, a4, a5⟩
    · rw [e1]
      exact ⟨rfl, fun y c e => (by cases e), fun x y c e => (by cases e), fun i y e => (by simp at e)⟩
    · have oc : s.heap.get? c' = some o := (I.hok c' _ a4).1
      rw [e1]
      have look : ∀ z d, List.lookup z [(y, c')] = some d → z = y ∧ d = c' := fun z d e => by
        rw [List.lookup_cons] at e
        cases q : (z == y) with
        | true =>
          rw [q] at e
          exact ⟨eq_of_beq q, (Option.some.inj e).symm⟩
        | false =>
          rw [q] at e
          cases e
      refine ⟨rfl, fun z d e => ?_, fun a b d e1 e2 => (look a d e1).1.trans (look b d e2).1.symm, fun j z e => ?_⟩
      · obtain ⟨_, rfl⟩ := look z d e
        exact ⟨drop_in (by simp), _, o, oc, a5⟩
      · match j, e with
        | 0, e =>
          cases (Option.some.inj e : y = z)
          refine ⟨c', by rw [List.lookup_cons, beq_self_eq_true], fun v ev => ?_⟩
          cases (Option.some.inj (Option.some.inj ev) : V.int i = v)
          exact ⟨_, ⟨t, rfl⟩, o, oc, a5⟩
        | j + 1, e => simp at e
  have lim : s.heap.NoLimit := I.nolimit
  have ran : codeAny (model X.prog X.w) X.A (.call (.ref f) ⟨[u], []⟩) (CR CX0 X.stack X.prog X.w (drop cl H) s (fun v H1 => v = .int (g n) ∧ ∀ b o, drop cl H b = some o → H1 b = some o) E0) s := by
    refine PySem.W.kla_callFunE hr.depth of rfl S.co S.gen rfl rc ?_
    rw [bnd]
    refine wpAny_pure (wpAny_newFunctionEnv S.nocell (fun y hy => ?_) (fun h₁ hns hsb => ⟨lim.fresh _ hsb, ?_⟩) S.kind)
    · rw [List.mem_singleton.mp hy]
      exact S.par L.x List.mem_cons_self
    have kp : ∀ b o, s.heap.get? b = some o → h₁.get? b = some o := fun b o e => hsb.extBut b o (Nat.ne_of_lt (Heap.lt_size e)) (Heap.get?_push_of_some _ e)
    show codeAny _ _ (.expr L.body (envF (L.nf cl c) f s.heap.objs.size)) _ _
    have J : Inv (ncx CX0 X.prog X.w X.K X.mg X.base (L.x :: L.fr) (L.nf cl c) f X.A X.stack s (drop cl H) E0) [] (startF (L.x :: L.fr) [.int n] (ws.map fun i => some (V.int i))) (drop cl H) { s with heap := h₁, toks := s.toks + ([(L.x, u)] : List (Str × Value)).length } :=
      inv_startN (us := [u]) S hr.hd e0 rfl (.cons ru .nil) CA hns kp
    have ln : ws.length = L.fr.length := by
      rcases C with ⟨e1, _, rfl⟩ | ⟨y, c', i, o, t, e1, _, rfl, _, _⟩ <;> rw [e1] <;> rfl
    have st : startF (L.x :: L.fr) [.int n] (ws.map fun i => some (V.int i)) = some (V.int n) :: ws.map fun i => some (V.int i) := by
      unfold startF
      rw [List.length_map, List.length_cons, ← ln]
      simp
    have lc : ∀ (G : Hp) (us : List Int), Loc X.K G (us.map fun i => some (V.int i)) (us.map fun i => some (aI i)) := fun G us => by
      induction us with
      | nil => exact trivial
      | cons i us ih => exact ⟨⟨_, rfl, Dp.int i⟩, ih⟩
    have bd := body (L.nf cl c) f X.A X.stack s (drop cl H) n rfl (hr.deeper _) gd
    refine PySem.W.kla_codeExpr (wpAny_mono (bd.run [] _ _ (drop cl H) (fun v H1 => v = .int (g n) ∧ ∀ b o, drop cl H b = some o → H1 b = some o) J ?_) (fun v s' hq => ?_) fun e s' hq => hq)
    · rw [st]
      refine ⟨fun _ => none, ⟨⟨_, rfl, Dp.int n⟩, lc _ ws⟩, ⟨fun b o e => (nomatch e), fun b z => z.elim, trivial, fun _ z => absurd z List.not_mem_nil, fun _ _ _ _ z => by simp at z⟩, fun v a G' H' ra rep nx => ?_⟩
      subst ra
      cases rep
      exact ⟨rfl, fun b o e => nx.h b o e fun z => z⟩
    · obtain ⟨w', H', J', rv, q⟩ := hq
      exact ⟨w', H', J'.os, J'.bare, J'.base, J'.hok, rv, q⟩
  refine wpAny_call (codeAny_mono ran fun r s' hq => ?_)
  cases r with
  | error e => exact (show False from hq).elim
  | ok fl =>
    cases fl with
    | ret u2 =>
      obtain ⟨v, H1, os, bare, un, hok, rv, ev, keep⟩ := hq
      subst ev
      have none1 : ∀ b, b ∈ cl.map (·.2) → H1 b = none := fun b hb => by
        obtain ⟨o, z, _⟩ := frz_at b hb
        exact un.free b o (I.hok b _ z).1 (drop_in hb) (by simp)
      refine I.after ⟨.int (g n), back cl H H1, os, bare, ?_, ?_, rv, h _ fun b o e => ?_⟩
      · refine ⟨fun b o e n2 => un.keep b o e (hD b n2), fun b o e n2 => un.slot b o e (hD b n2), fun b o e n2 hx => ?_, un.there, fun b xs e => ?_, fun b o v e => ?_, fun b ps e => ?_⟩
        · by_cases hb : b ∈ cl.map (·.2)
          · rw [back_in hb]
            exact n2
          · rw [back_out hb]
            exact un.free b o e (hD b n2) hx
        · have hb : b ∉ cl.map (·.2) := fun hb => by
            obtain ⟨o2, z, _⟩ := frz_at b hb
            rw [z] at e
            cases e
          rw [back_out hb]
          exact un.tups b xs (by rw [drop_out hb]; exact e)
        · by_cases hb : b ∈ cl.map (·.2)
          · rw [back_in hb]
            exact e
          · rw [back_out hb]
            exact un.frzs b o v (by rw [drop_out hb]; exact e)
        · have hb : b ∉ cl.map (·.2) := fun hb => by
            obtain ⟨o2, z, _⟩ := frz_at b hb
            rw [z] at e
            cases e
          rw [back_out hb]
          exact un.tbls b ps (by rw [drop_out hb]; exact e)
      · intro b o e
        by_cases hb : b ∈ cl.map (·.2)
        · rw [back_in hb] at e
          obtain ⟨o2, z, _⟩ := frz_at b hb
          rw [z] at e
          cases e
          have k1 : s.heap.get? b = some o2 := (I.hok b _ z).1
          have nb : b ∉ frs X.stack := fun q => by
            rw [I.stkFree b q] at z
            cases z
          have k2 := un.keep b o2 k1 (drop_in hb) nb (by simp)
          exact ⟨k2, trivial, ⟨_, k2⟩, fun _ _ _ _ => trivial⟩
        · rw [back_out hb] at e
          refine (hok b o e).stay (fun _ _ _ q => q) (fun d q => ?_) fun d xs q => ?_
          · rw [back_out]
            · exact q
            · intro hd
              rw [none1 d hd] at q
              cases q
          · rw [back_out]
            · exact q
            · intro hd
              rw [none1 d hd] at q
              cases q
      · by_cases hb : b ∈ cl.map (·.2)
        · rw [back_in hb]
          exact e
        · rw [back_out hb]
          exact keep b o (by rw [drop_out hb]; exact e)
    | next => exact (show False from hq).elim
    | brk => exact (show False from hq).elim
    | cont => exact (show False from hq).elim
end

theorem fnLam_at {P : Program} {w : World} {H : Hp} {h : Heap} {f : Addr} {F : NF} {body : Expr} (hok : HOk P w H h) (e : H f = some (FnLam f F body)) : PySem.W.FnAt f h := by
  obtain ⟨⟨pm, ctv, z⟩, _, _⟩ := hok f _ e
  exact ⟨_, _, _, _, z⟩
section
variable {X : Cx} {rs : Rs} {M : Mem} {ρ : List (Option Ab)} {o e : Expr} {C : Addr} {fs : List (Str × Ab)} {m : Str} {R : Ab → Prop} {pos apos : Pos} {k : Nat} {L : LF} {ws : List Int} {g : Int → Int} {i : Int}
theorem de_kept {pl : Sem Bool} (W : Keeps X.prog X.w X.K X.mg X.base k L ws g) (c : Cls X.K C) (n : NoAttr X.K C m) (hr : Room (k + 1) X.A) (gd : X.A.guards = some []) (he : DE X rs M ρ o (Is (aIns X.K C fs))) (l : fs.lookup m = some (aKept L ws)) (ha : DE X rs M ρ e (Is (aI i)))
    (hst : starEach [e] X.env = (false, eval e X.env) :: starEach [] X.env := by rfl) (hpl : (backTo pos (starEach [] X.env)).any (·.1) = false := by rfl)
    (ht : eval (.Call (.Attribute o m apos) [e] [] pos) X.env = (do
      let ov ← eval o X.env
      standAt apos.atName
      let (f, first) ← holding [ov] (getMethod ov m pl)
      callWith pos f first (backTo pos (starEach [e] X.env)) (backToKw pos (keywordEach [] X.env))) := by rfl) :
    DE X rs M ρ (.Call (.Attribute o m apos) [e] [] pos) (Is (aI (g i))) := by
  refine ⟨fun pins s σ H Q I h => ?_⟩
  obtain ⟨G, lo, ok, kk⟩ := h
  refine PySem.W.methodCall_KW (pl := pl) (thn (he.run pins s σ H (fun v H1 => ∃ G1, Rep X.K G1 v (aIns X.K C fs) ∧ Loc X.K G1 σ ρ ∧ Ok X.K rs M G1 H1 ∧ Nxt rs G H G1 H1) I (tD_go lo ok fun v z G1 H1 rz rep1 l1 ok1 n1 => by
    subst rz
    exact ⟨G1, rep1, l1, ok1, n1⟩)) fun u s1 ⟨v, H1, I1, rx, G1, rep1, l1, ok1, n1⟩ => ?_) ht
  obtain ⟨a, dx, vs, e1, e2, e3, e4⟩ := rep_ins rep1
  subst e1
  obtain rfl : u = Value.ref a := rx
  have ea := n1.gh _ _ e2
  obtain ⟨fv, lf, G0, eG, kp⟩ := fld_some e3 e4 l
  have kp := kp.same eG
  obtain ⟨f, cc, cl, ef, hf, hc, hcl⟩ := kp
  subst ef
  obtain ⟨mA, O, r, wi, _, ho⟩ := ins_get I1.hok ea
  obtain ⟨od, J, hl⟩ := O.look
  refine PySem.W.method_usual (r := none) I1.kIn J (PySem.W.plainGet_of (c.get m)).1 (PySem.W.plainGet_of (c.get m)).2 n rfl (getattr_ok I1 ea c n lf fun u' s2 I2 ru => ?_)
  obtain rfl : u' = Value.ref f := ru
  show wpAny _ _ (callWith pos (.ref f) [] (backTo pos (starEach [e] X.env)) []) _ _ _
  have fa2 : PySem.W.FnAt f s2.heap := fnLam_at I2.hok (n1.gh _ _ hf)
  have da : DA X rs M ρ [e] (fun as => as = [aI i]) := da_cons ha da_nil hst
  have arg := da.run pos pins s2 σ H1 (fun us H2 => ∃ G2, us = [.int i] ∧ Nxt rs G1 H1 G2 H2) I2 ⟨G1, l1, ok1, fun us as G2 H2 ra rep n2 => ?_⟩
  refine PySem.W.callWith_F (first := []) fa2 (thn arg fun us s3 ⟨vs2, H2, I3, r3, G2, ev, n2⟩ => ?_) hst hpl
  refine ⟨fnLam_at I3.hok (n2.gh _ _ (n2.g _ _ hf)), ?_⟩
  rotate_left
  · subst ra
    obtain ⟨v, e1, r1⟩ := repAll_one rep
    cases r1
    exact ⟨G2, e1, n2⟩
  subst ev
  cases r3 with
  | cons r1 rest =>
    cases rest
    have sm : Same G1 H2 := fun b o q => n2.gh _ _ (n2.g _ _ q)
    have hcl2 : CellsIn H2 L.fr cl ws := by
      rcases hcl with q | ⟨y, c', i, o, t, a1, a2, a3, a4, a5⟩
      · exact .inl q
      · exact .inr ⟨y, c', i, o, t, a1, a2, a3, sm _ _ a4, a5⟩
    refine lam_run (f := f) (c := cc) (cl := cl) W hr gd I3 (sm _ _ hf) (sm _ _ hc) hcl2 r1 fun H3 keep => ?_
    have ok2 := ok1.nxt n2
    have n3 : Nxt rs G2 H2 G2 H3 := ⟨Same.refl _, fun b o q => keep _ _ (ok2.gh _ _ q), fun b o q _ => keep _ _ q, fun b o q => .inl q, rs.st H2 H3 ok2.i fun b o _ q => keep _ _ q⟩
    exact kk _ (aI (g i)) G2 H3 rfl (Dp.int _) (n1.trans (n2.trans n3 ok1) ok)
end
end HW
/-! Own layer, part Lb: the lambda made; a call with an instance that keeps it. -/
namespace HW
open PySem PySem.Spec PyProof.Rows L2 RZ NdefX
section
variable {X : Cx} {pins : List (Addr × Obj)} {σ : L2.St} {H : Hp} {s : Shared} {T : TabL}
/-- a lambda's object just made is known from now on -/
theorem inv_lam {F : NF} {body : Expr} {t' : Nat} {pm ctv : Value} (I : Inv X pins σ H s) :
    Inv X pins σ (upd H s.heap.objs.size (FnLam s.heap.objs.size F body)) { s with heap := s.heap.push (PySem.W.kla_obj "<lambda>" F.qual F.params body F.scope F.cl pm F.c ctv), toks := t' } := by
  refine I.laid (a := s.heap.objs.size) (fun b u e => Heap.get?_push_of_some _ e) (Nat.le_refl _) ?_
  have e : (s.heap.push (PySem.W.kla_obj "<lambda>" F.qual F.params body F.scope F.cl pm F.c ctv)).get? s.heap.objs.size = some (PySem.W.kla_obj "<lambda>" F.qual F.params body F.scope F.cl pm F.c ctv) := Heap.get?_push_size _ rfl
  exact ⟨⟨pm, ctv, e⟩, ⟨_, e⟩, fun h1 h2 ⟨p, t, z⟩ st => ⟨p, t, st _ z⟩⟩
theorem lam_newC {c P : Addr} {params : Arguments} {body : Expr} {scope : Scope} {pos : Pos} {E Q : Value → Shared → Prop} {nm : Str} (inv : Inv X pins σ H s) (tb : LamX.TabB X.base X.mg c P) (code : X.env.code = .ref c) (en : nm = X.env.qual ++ "<lambda>")
    (mem : (P, nm) ∈ T) (one : ∀ p ∈ T, p.1 = P → p.2 = nm) (tabs : LamX.Tabs T H) (dflt : defaultsOf params X.env = ([], [])) (has : ∀ y ∈ scope.names, y.2 = .free → ∃ c, X.env.cells.lookup y.1 = some c)
    (k : ∀ (f c2 : Addr) (H2 : Hp) (s2 : Shared), Inv X pins σ H2 s2 → (∀ b o, b ≠ P → H b = some o → H2 b = some o) → LamX.Tabs T H2 →
      H f = none → H2 f = some (FnLam f ⟨"<lambda>", nm, params, [], scope, cloFrom X.env.cells scope.names [], c2⟩ body) → H2 c2 = some (LamX.CodeO c2 nm) → Q (.ref f) s2) :
    wpAny (model X.prog X.w) X.A (eval (.Lambda params body scope pos) X.env) Q E s := by
  subst en
  obtain ⟨ps, atP, tri, told⟩ := tabs _ mem
  have closed := closure_ok (scope := scope) (env := X.env) has
  have objP : s.heap.get? P = some { cls := .none, data := .fields ps } := inv.hok P _ atP
  have blt := tb.bm.keeps inv.bk
  have hd := tb.code.keeps inv.bk
  have glob := inv.mod.glob.keeps inv.bk
  refine PySem.W.kla_eval dflt ?_
  match am : codeAmong pos ps.toList with
  | some cv =>
    obtain ⟨c2, rfl, isC⟩ := told pos cv am
    refine PySem.W.kla_makeFunctionHit (P := P) (c := c) (mg := X.mg) (ps := ps) closed inv.ok.glob glob code hd objP tri am blt ?_
    intro ctv h2 tk kept size
    have I1 : Inv X pins σ H { s with heap := h2, toks := tk } := inv.kept kept
    have I2 := inv_lam (F := ⟨"<lambda>", X.env.qual ++ "<lambda>", params, [], scope, cloFrom X.env.cells scope.names [], c2⟩) (body := body) (t' := tk) (pm := (X.mg "__name__").getD .none) (ctv := ctv) I1
    have nF : H h2.objs.size = none := I1.hok.fresh (Nat.le_refl _)
    have up : ∀ b o, H b = some o → upd H h2.objs.size (FnLam h2.objs.size ⟨"<lambda>", X.env.qual ++ "<lambda>", params, [], scope, cloFrom X.env.cells scope.names [], c2⟩ body) b = some o := fun b o e => by
      rw [upd_ne (ne_of_none e nF)]
      exact e
    exact k h2.objs.size c2 _ _ I2 (fun b o _ e => up b o e) (fun p hp => (tabs p hp).ext up) nF upd_same (up _ _ isC)
  | none =>
    refine PySem.W.kla_makeFunction (P := P) (c := c) (mg := X.mg) (ps := ps) closed inv.ok.glob glob code hd objP tri am tb.gP blt ?_
    intro c2 ctv h2 tk ext fresh below rec_ tab2
    obtain ⟨c3, oc, vs, t, e3, a1, a2, a3⟩ := rec_
    have e3 : c2 = c3 := by injection e3
    subst e3
    have none2 : H c2 = none := inv.hok.fresh fresh
    have I1 := LamX.inv_table (t' := tk) (q := X.env.qual ++ "<lambda>") (more := #[rawInt pos.line, rawInt pos.col, .ref c2]) (h' := h2) inv atP (fun b o nb q => ext b o nb q) tab2 fresh ⟨oc, vs, t, a1, a2, a3⟩
    have I2 := inv_lam (F := ⟨"<lambda>", X.env.qual ++ "<lambda>", params, [], scope, cloFrom X.env.cells scope.names [], c2⟩) (body := body) (t' := tk) (pm := (X.mg "__name__").getD .none) (ctv := ctv) I1
    have nF1 := I1.hok.fresh (Nat.le_refl _)
    have stay : ∀ b o, b ≠ P → H b = some o → upd (upd H P (.tbl (ps ++ #[rawInt pos.line, rawInt pos.col, .ref c2]))) c2 (LamX.CodeO c2 (X.env.qual ++ "<lambda>")) b = some o := fun b o nb q => by
      rw [upd_ne (ne_of_none q none2), upd_ne nb]
      exact q
    have up : ∀ b o, upd (upd H P (.tbl (ps ++ #[rawInt pos.line, rawInt pos.col, .ref c2]))) c2 (LamX.CodeO c2 (X.env.qual ++ "<lambda>")) b = some o → upd (upd (upd H P (.tbl (ps ++ #[rawInt pos.line, rawInt pos.col, .ref c2]))) c2 (LamX.CodeO c2 (X.env.qual ++ "<lambda>"))) h2.objs.size (FnLam h2.objs.size ⟨"<lambda>", X.env.qual ++ "<lambda>", params, [], scope, cloFrom X.env.cells scope.names [], c2⟩ body) b = some o := fun b o e => by
      rw [upd_ne (ne_of_none e nF1)]
      exact e
    have noP : ∀ b q, H b = some (LamX.CodeO b q) → b ≠ P := fun b q z e => by
      subst e
      rw [atP] at z
      exact LamX.codeO_ne ps (Option.some.inj z).symm
    refine k h2.objs.size c2 _ _ I2 (fun b o nb e => up _ _ (stay b o nb e)) (fun p hp => ?_) (inv.hok.fresh (Nat.le_trans fresh (Nat.le_of_lt below))) upd_same (up _ _ upd_same)
    refine LamX.TabS.ext ?_ up
    by_cases hb : p.1 = P
    · have lst : (ps ++ #[rawInt pos.line, rawInt pos.col, Value.ref c2]).toList = ps.toList ++ [rawInt pos.line, rawInt pos.col, .ref c2] := by simp
      rw [one p hp hb, hb]
      refine ⟨_, by rw [upd_ne (ne_of_none atP none2), upd_same], by rw [lst]; exact PySem.TriplesOk_snoc _ _ _ _ tri, fun at_ cv z => ?_⟩
      rw [lst] at z
      rcases LamX.among_app _ tri z with z | z
      · obtain ⟨c0, z1, z2⟩ := told at_ cv z
        exact ⟨c0, z1, stay _ _ (noP _ _ z2) z2⟩
      · exact ⟨c2, z, upd_same⟩
    · exact tabS_stay (tabs p hp) (fun ps2 q => stay _ _ hb q) fun c0 q => stay _ _ (noP _ _ q) q
end
/-- a lambda's reading -/
def tLamC (T : TabL) (P : Addr) (mk : Addr → NF) (body : Expr) : TE := fun σ H Q => LamX.Tabs T H ∧ ∀ (f c2 : Addr) (H2 : Hp), (∀ b o, b ≠ P → H b = some o → H2 b = some o) → LamX.Tabs T H2 → H f = none → H2 f = some (FnLam f (mk c2) body) → H2 c2 = some (LamX.CodeO c2 (mk c2).qual) → Q (.ref f) H2
section
variable {X : Cx} {T : TabL} {c P : Addr} {params : Arguments} {body : Expr} {scope : Scope} {pos : Pos} {nm : Str}
theorem pe_lamC (tb : LamX.TabB X.base X.mg c P) (code : X.env.code = .ref c) (en : nm = X.env.qual ++ "<lambda>") (mem : (P, nm) ∈ T) (one : ∀ p ∈ T, p.1 = P → p.2 = nm) (dflt : defaultsOf params X.env = ([], []))
    (free : ∀ y ∈ scope.names, y.2 = .free → X.env.scope.names.lookup y.1 = some .cell ∨ X.env.scope.names.lookup y.1 = some .free) :
    PE X (.Lambda params body scope pos) (tLamC T P (fun c2 => ⟨"<lambda>", nm, params, [], scope, cloFrom X.env.cells scope.names [], c2⟩) body) :=
  ⟨fun pins s σ H Q I ⟨tabs, k⟩ => lam_newC I tb code en mem one tabs dflt (fun y hy e => (free y hy e).elim (fun z => I.ok.has _ (.inl z)) fun z => I.ok.has _ (.inr z)) fun f c2 H2 s2 I2 h1 h2 h3 h4 h5 => ⟨.ref f, H2, I2, rfl, k f c2 H2 h1 h2 h3 h4 h5⟩⟩
end

section
variable {X : Cx} {x y : Str} {p pos : Pos} {e : Expr} {es : List Expr} {k i : Nat} {f : Addr} {fd : FuncData} {ps : List Str} {sp : Sp} {t : TA}
/-- a call while the cell of a name of ours is told -/
theorem pe_callC (F : FnG X.prog X.w X.K X.mg X.base CX0 k f fd ps sp) (hr : Room k X.A) (gd : X.A.guards = some []) (hg : Gl X x) (hm : X.mg x = some (.ref f)) (hk : PySem.W.keepIn X.K (.ref f) = true) (hb : Binds X.K fd ps []) (ha : PA X (e :: es) t)
    (hN : X.N[i]? = some y) (hy : X.env.scope.names.lookup y = some .cell) (hfn : X.fn y = true)
    (hdb : (x == ("__debug__" : Str)) = false := by decide) (he : starEach (e :: es) X.env = (false, eval e X.env) :: starEach es X.env := by rfl) (hpl : (backTo pos (starEach es X.env)).any (·.1) = false := by rfl) :
    PE X (.Call (.Name x p) (e :: es) [] pos) (fun σ H Q => t σ H fun vs H1 => ∃ v, σ[i]? = some (some v) ∧ ∀ cc o u, H1 cc = none → o.data = .cell (some u) → RelV v u → X.env.cells.lookup y = some cc → sp vs (upd H1 cc (.frz o anyHO)) (fun z H2 => Q z (del H2 cc)) E0) := by
  constructor
  intro pins s σ H Q I h
  refine wpAny_Call_Name_kw (ld_glob I hg hm ?_ hdb)
  have args := thn (ha.run pos pins s σ H _ I h) (Q' := fun us s1 => X.K.In s1.heap ∧ wpAny (model X.prog X.w) X.A (call (.ref f) us) (EP X pins σ Q) X.xe s1) fun us s1 q => by
    obtain ⟨vs, H1, I1, r, v, hv, q1⟩ := q
    refine And.intro I1.kIn ?_
    obtain ⟨m, hn, hl⟩ := id I1.loc
    obtain ⟨u, ru, lk⟩ := hl i y v hN hv (.inr (.inl hy))
    obtain ⟨cc, hcc, o, ho, hd⟩ : ∃ cc, X.env.cells.lookup y = some cc ∧ s1.heap.IsCell cc (some u) := by
      rcases lk with ⟨z, _⟩ | ⟨_, c, h1, h2⟩
      · have z : X.env.scope.names.lookup y = some .local := z
        rw [hy] at z
        cases z
      · exact ⟨c, h1, h2⟩
    have n1 : H1 cc = none := I1.freeC y cc hcc
    have big : X.s_0.heap.objs.size ≤ cc := I1.ok.cab y cc hfn hcc
    have nfr : ∀ b ∈ frs X.stack, b ≠ cc := fun b hb ebc => by
      subst ebc
      rcases List.mem_cons.mp (I1.stkSub b hb) with z | z
      · obtain ⟨o2, es2, ep2, h2, r2, _⟩ := hn
        rw [← z, ho] at h2
        cases Option.some.inj h2
        rw [hd] at r2
        cases r2
      · obtain ⟨_, o2, h2, _⟩ := I1.ok.funs.mem z
        exact absurd (Nat.lt_of_lt_of_le (Heap.lt_size h2) big) (Nat.lt_irrefl _)
    have nbs : ∀ b o, X.base.get? b = some o → b ≠ cc := fun b o2 hb ebc => by
      subst ebc
      exact absurd (Nat.lt_of_lt_of_le (Heap.lt_size hb) (Nat.le_trans I1.ok.bsz big)) (Nat.lt_irrefl _)
    have hk1 : HOk X.prog X.w (upd H1 cc (.frz o anyHO)) s1.heap := fun b w e => by
      by_cases hbc : b = cc
      · subst hbc
        rw [upd_same] at e
        cases Option.some.inj e
        exact ⟨ho, trivial, ⟨_, ho⟩, fun _ _ _ _ => trivial⟩
      · rw [upd_ne hbc] at e
        exact (I1.hok b w e).stay (fun _ _ _ q => q) (fun d q => by rw [upd_ne (ne_of_none q n1)]; exact q) fun d xs q => by rw [upd_ne (ne_of_none q n1)]; exact q
    have e0 : Env0 X.prog X.w X.K X.mg X.base X.A X.stack s1 (upd H1 cc (.frz o anyHO)) :=
      ⟨I1.env0.frames, I1.env0.mod, fun b w e => ⟨(I1.env0.bs b w e).1, by rw [upd_ne (nbs b w e)]; exact (I1.env0.bs b w e).2⟩, I1.env0.bsz, I1.env0.funs, fun b hb => by rw [upd_ne (nfr b hb)]; exact I1.env0.frf b hb, hk1, I1.env0.bare⟩
    have q2 := q1 cc o u n1 hd ru hcc
    have ln : us.length = ps.length := r.length.symm.trans (F.len _ _ _ _ q2)
    have bnd := hb s1 us I1.kIn (by rw [List.append_nil]; exact ln)
    rw [List.append_nil] at bnd
    have ran := F.run X.A X.stack s1 (upd H1 cc (.frz o anyHO)) { pos := us, kw := [] } us vs _ E0 hr gd e0 bnd r q2
    refine wpAny_call (codeAny_mono ran fun r s' hq => ?_)
    cases r with
    | error e => exact (show False from hq).elim
    | ok fl =>
      cases fl with
      | ret u2 =>
        obtain ⟨z, H2, os, bare, un, hok, rv, qz⟩ := hq
        have at2 : H2 cc = some (.frz o anyHO) := un.frzs cc o anyHO upd_same
        have ho2 : s'.heap.get? cc = some o := (hok cc _ at2).1
        refine I1.after ⟨z, del H2 cc, os, bare, ?_, ?_, rv, qz⟩
        · refine ⟨fun b w e n2 nf hx => ?_, fun b w e n2 nf hx => ?_, fun b w e n2 hx => ?_, un.there, fun b xs e => ?_, fun b w v e => ?_, fun b ps e => ?_⟩
          · by_cases hbc : b = cc
            · subst hbc
              rw [ho] at e
              cases Option.some.inj e
              exact ho2
            · exact un.keep b w e (by rw [upd_ne hbc]; exact n2) nf hx
          · by_cases hbc : b = cc
            · subst hbc
              rw [ho] at e
              cases Option.some.inj e
              exact ⟨o.slots, ho2⟩
            · exact un.slot b w e (by rw [upd_ne hbc]; exact n2) nf hx
          · by_cases hbc : b = cc
            · subst hbc
              exact if_pos rfl
            · rw [del_ne hbc]
              exact un.free b w e (by rw [upd_ne hbc]; exact n2) hx
          · have hbc := ne_of_none e n1
            rw [del_ne hbc]
            exact un.tups b xs (by rw [upd_ne hbc]; exact e)
          · have hbc := ne_of_none e n1
            rw [del_ne hbc]
            exact un.frzs b w v (by rw [upd_ne hbc]; exact e)
          · have hbc := ne_of_none e n1
            rw [del_ne hbc]
            exact un.tbls b ps (by rw [upd_ne hbc]; exact e)
        · intro b w e
          by_cases hbc : b = cc
          · subst hbc
            rw [show del H2 b b = none from if_pos rfl] at e
            cases e
          · rw [del_ne hbc] at e
            refine (hok b w e).stay (fun _ _ _ q => q) (fun d q => ?_) fun d xs q => ?_
            · rw [del_ne]
              · exact q
              · rintro rfl
                rw [at2] at q
                cases q
            · rw [del_ne]
              · exact q
              · rintro rfl
                rw [at2] at q
                cases q
      | next => exact (show False from hq).elim
      | brk => exact (show False from hq).elim
      | cont => exact (show False from hq).elim
  exact PySem.W.callWith_K (h₀ := X.base) I.ok.mod.kin hk args he hpl
end

section
variable {X : Cx} {rs : Rs} {T : TabL} {M : Mem} {ρ : List (Option Ab)} {x xc y n1 n2 px nm : Str} {p pc pos cpos lpos : Pos} {ep ek body : Expr} {params : Arguments} {scope : Scope} {k ki i : Nat} {f gi C c P : Addr} {fd fdi : FuncData} {ps psi : List Str} {S : Rs → Mem → List Ab → (Ab → Prop) → Prop} {yp yk : Ab} {lim : Int} {R : Ab → Prop}
/-- f(e, C(e2, lambda px: body)), the lambda keeps a name of ours -/
theorem de_foldC (nt : NoTab rs) (F : FnG X.prog X.w X.K X.mg X.base CX0 k f fd ps (Spec X.K S)) (hr : Room k X.A) (gd : X.A.guards = some []) (hg : Gl X x) (hm : X.mg x = some (.ref f)) (hk : PySem.W.keepIn X.K (.ref f) = true) (hb : Binds X.K fd ps [])
    (MkT : Mk X.K C gi) (Fi : FnG X.prog X.w X.K X.mg X.base CX0 ki gi fdi psi (SpInit C [n1, n2])) (hri : Room (ki + 1) X.A) (hgi : Gl X xc) (hmi : X.mg xc = some (.ref C)) (hbi : Binds X.K fdi psi [])
    (tb : LamX.TabB X.base X.mg c P) (code : X.env.code = .ref c) (en : nm = X.env.qual ++ "<lambda>") (mem : (P, nm) ∈ T) (one : ∀ p ∈ T, p.1 = P → p.2 = nm) (dflt : defaultsOf params X.env = ([], []))
    (free : ∀ y ∈ scope.names, y.2 = .free → X.env.scope.names.lookup y.1 = some .cell ∨ X.env.scope.names.lookup y.1 = some .free) (clo : ∀ (cells : List (Str × Addr)) (c : Addr), cells.lookup y = some c → cloFrom cells scope.names [] = [(y, c)])
    (hp : DE X (tRs rs T) M ρ ep (Is yp)) (hq : DE X (tRs rs T) M ρ ek (Is yk)) (hN : X.N[i]? = some y) (hy : X.env.scope.names.lookup y = some .cell) (hfn : X.fn y = true) (hρ : ρ[i]? = some (some (aI lim)))
    (h : S rs [] [yp, aIns X.K C [(n1, yk), (n2, aKept ⟨nm, params, body, scope, px, [y]⟩ [lim])]] R) (hR : ∀ a, R a → ∃ i, a = aI i)
    (hdb : (x == ("__debug__" : Str)) = false := by decide) (hdc : (xc == ("__debug__" : Str)) = false := by decide)
    (he : starEach [ep, .Call (.Name xc pc) [ek, .Lambda params body scope lpos] [] cpos] X.env = (false, eval ep X.env) :: starEach [.Call (.Name xc pc) [ek, .Lambda params body scope lpos] [] cpos] X.env := by rfl)
    (he2 : starEach [.Call (.Name xc pc) [ek, .Lambda params body scope lpos] [] cpos] X.env = (false, eval (.Call (.Name xc pc) [ek, .Lambda params body scope lpos] [] cpos) X.env) :: starEach [] X.env := by rfl)
    (he3 : starEach [ek, .Lambda params body scope lpos] X.env = (false, eval ek X.env) :: starEach [.Lambda params body scope lpos] X.env := by rfl)
    (he4 : starEach [.Lambda params body scope lpos] X.env = (false, eval (.Lambda params body scope lpos) X.env) :: starEach [] X.env := by rfl)
    (hpl : (backTo pos (starEach [.Call (.Name xc pc) [ek, .Lambda params body scope lpos] [] cpos] X.env)).any (·.1) = false := by rfl) (hpl2 : (backTo cpos (starEach [.Lambda params body scope lpos] X.env)).any (·.1) = false := by rfl) :
    DE X (tRs rs T) M ρ (.Call (.Name x p) [ep, .Call (.Name xc pc) [ek, .Lambda params body scope lpos] [] cpos] [] pos) R := by
  have lamE := pe_lamC (X := X) (T := T) (params := params) (body := body) (scope := scope) (pos := lpos) tb code en mem one dflt free
  have mk := pe_makeG (E := E0) (p := pc) (pos := cpos) MkT Fi hri gd hgi hmi hbi .nil pass0 (pa_cons hq (pa_cons lamE pa_nil he4) he3) hdc he3 hpl2
  refine pe_weak (pe_callC (p := p) (pos := pos) F hr gd hg hm hk hb (pa_cons hp (pa_cons mk pa_nil he2) he) hN hy hfn hdb he hpl) fun σ H Q ⟨G, lo, ok, kk⟩ => ?_
  refine tD_go lo ok fun v1 a1 G1 H1 ra1 rep1 l1 ok1 n1' => tD_go l1 ok1 fun v2 a2 G2 H2 ra2 rep2 l2 ok2 n2' => ?_
  subst ra1 ra2
  refine ⟨ok2.i.2, fun f' c2 H3 stay T3 nf hf hc => ?_⟩
  intro ix dx hx hdx ne
  refine ⟨ix, dx, [v2, .ref f'], rfl, rfl, upd_same, rfl, ?_⟩
  rw [upd_upd]
  obtain ⟨vl, hvl, rl⟩ := l2.get hρ
  cases rl
  refine ⟨_, hvl, fun cc o u h1 hod ru hcc => ?_⟩
  obtain ⟨t, rfl⟩ : ∃ t, u = .int lim t := ru
  -- what stands
  have tP : ∃ ps, H2 P = some (.tbl ps) := by
    obtain ⟨ps, w, _⟩ := ok2.i.2 _ mem
    exact ⟨ps, w⟩
  have tP3 : ∃ ps, H3 P = some (.tbl ps) := by
    obtain ⟨ps, w, _⟩ := T3 _ mem
    exact ⟨ps, w⟩
  have gP : G2 P = none := ok2.sep P (.inr (List.mem_map.mpr ⟨_, mem, rfl⟩))
  have hx3 : H3 ix = none := hx
  have hdx3 : H3 dx = none := hdx
  have e1 : ∀ b w, H3 b = some w → upd (upd H3 dx (.own ix)) ix (.ins C dx [(n1, v2), (n2, .ref f')]) b = some w := fun b w e => by
    rw [upd_ne (ne_of_none e hx3), upd_ne (ne_of_none e hdx3)]
    exact e
  have e2 : ∀ b w, upd (upd H3 dx (.own ix)) ix (.ins C dx [(n1, v2), (n2, .ref f')]) b = some w → upd (upd (upd H3 dx (.own ix)) ix (.ins C dx [(n1, v2), (n2, .ref f')])) cc (.frz o anyHO) b = some w := fun b w e => by
    rw [upd_ne (ne_of_none e h1)]
    exact e
  have h1' : upd (upd H3 dx (.own ix)) ix (.ins C dx [(n1, v2), (n2, .ref f')]) cc = none := h1
  have n3 : H3 cc = none := by
    cases q : H3 cc with
    | none => rfl
    | some w =>
      rw [e1 _ _ q] at h1'
      cases h1'
  have n2c : ∀ w, H2 cc = some w → False := fun w q => by
    by_cases hb : cc = P
    · obtain ⟨ps, w2⟩ := tP3
      rw [← hb, n3] at w2
      cases w2
    · rw [stay _ _ hb q] at n3
      cases n3
  have g3 : ∀ b w, G2 b = some w → H3 b = some w := fun b w e => stay b w (fun z => by rw [z, gP] at e; cases e) (ok2.gh _ _ e)
  have fR : ∀ b w, rs.F b ∨ Cod b w → H2 b = some w → b ≠ P := fun b w hf e z => by
    subst z
    obtain ⟨ps, w2⟩ := tP
    rw [w2] at e
    cases Option.some.inj e
    rcases hf with hf | ⟨q, z⟩
    · exact (nt H2 b _ ok2.i.1 hf w2).1 ps (Eq.refl _)
    · exact LamX.codeO_ne ps z.symm
  have i3 : rs.I H3 := rs.st H2 H3 ok2.i.1 fun b w hf e => stay b w (fR b w hf e) e
  have i5 : rs.I (upd (upd (upd H3 dx (.own ix)) ix (.ins C dx [(n1, v2), (n2, .ref f')])) cc (.frz o anyHO)) := rs.st H3 _ i3 fun b w _ e => e2 _ _ (e1 _ _ e)
  -- the frozen part
  have hGp : ∃ Gp : Hp, Same G2 Gp ∧ Same Gp (upd (upd (upd H3 dx (.own ix)) ix (.ins C dx [(n1, v2), (n2, .ref f')])) cc (.frz o anyHO)) ∧ (∀ b, rs.F b → Gp b = none) ∧ Gp f' = some (FnLam f' ⟨"<lambda>", nm, params, [], scope, cloFrom X.env.cells scope.names [], c2⟩ body) ∧ Gp c2 = some (LamX.CodeO c2 nm) ∧ Gp ix = some (.ins C dx [(n1, v2), (n2, .ref f')]) ∧ Gp cc = some (.frz o anyHO) := by
    refine ⟨fun b => if b = f' ∨ b = c2 ∨ b = ix ∨ b = cc then upd (upd (upd H3 dx (.own ix)) ix (.ins C dx [(n1, v2), (n2, .ref f')])) cc (.frz o anyHO) b else G2 b, fun b w e => ?_, fun b w e => ?_, fun b hFr => ?_, ?_, ?_, ?_, ?_⟩
    · by_cases q : b = f' ∨ b = c2 ∨ b = ix ∨ b = cc
      · exact (if_pos q).trans (e2 _ _ (e1 _ _ (g3 _ _ e)))
      · exact (if_neg q).trans e
    · by_cases q : b = f' ∨ b = c2 ∨ b = ix ∨ b = cc
      · exact (if_pos q).symm.trans e
      · exact e2 _ _ (e1 _ _ (g3 _ _ ((if_neg q).symm.trans e)))
    · have hG2 : G2 b = none := ok2.sep b (.inl hFr)
      have hFb := hFr
      obtain ⟨w, hw⟩ := rs.has H2 b ok2.i.1 hFb
      have hw3 := stay b w (fR b w (.inl hFb) hw) hw
      refine (if_neg ?_).trans hG2
      rintro (rfl | rfl | rfl | rfl)
      · rw [nf] at hw
        cases hw
      · exact (nt H3 b _ i3 hFb hc).2 ⟨nm, rfl⟩
      · rw [hx3] at hw3
        cases hw3
      · rw [n3] at hw3
        cases hw3
    · exact (if_pos (.inl rfl)).trans (e2 _ _ (e1 _ _ hf))
    · exact (if_pos (.inr (.inl rfl))).trans (e2 _ _ (e1 _ _ hc))
    · exact (if_pos (.inr (.inr (.inl rfl)))).trans (e2 _ _ upd_same)
    · exact (if_pos (.inr (.inr (.inr rfl)))).trans upd_same
  obtain ⟨Gp, sG, gH, sepG, gf, gc, gi_, gcc⟩ := hGp
  have okp : Ok X.K rs [] Gp (upd (upd (upd H3 dx (.own ix)) ix (.ins C dx [(n1, v2), (n2, .ref f')])) cc (.frz o anyHO)) := ⟨gH, sepG, i5, fun _ z => absurd z List.not_mem_nil, fun _ _ _ _ z => by simp at z⟩
  have cl := clo X.env.cells cc hcc
  refine ⟨rs, [], _, R, Gp, h, fun _ z => absurd z List.not_mem_nil, ⟨(rep1.same n2'.g).same sG, ins_rep ⟨ix, dx, _, rfl, gi_, rfl, rep2.same sG, ⟨Gp, Same.refl _, f', c2, [(y, cc)], rfl, ?_, gc, .inr ⟨y, cc, lim, o, t, rfl, rfl, rfl, gcc, hod⟩⟩, trivial⟩, trivial⟩, okp, fun z a G' H' ra rep nx => ?_⟩
  · rw [← cl]
    exact gf
  obtain ⟨j, rfl⟩ := hR a ra
  cases rep
  have nFc : ∀ b w, H2 b = some w → ¬ rs.F b → b ≠ P → H' b = some w := fun b w e hf hb => nx.h b w (e2 _ _ (e1 _ _ (stay b w hb e))) hf
  have at' : H' cc = some (.frz o anyHO) := nx.h cc _ upd_same fun hf => by
    obtain ⟨w, hw⟩ := rs.has H2 cc ok2.i.1 hf
    exact n2c w hw
  refine kk _ (aI j) G2 _ ra (Dp.int _) (n1'.trans (n2'.trans ⟨Same.refl _, fun b w e => ?_, fun b w e hf => ?_, fun b w e => .inl e, ?_, ?_⟩ ok1) ok)
  · rw [del_ne fun z => n2c w (by rw [← z]; exact ok2.gh _ _ e)]
    exact nFc b w (ok2.gh _ _ e) (fun q => by rw [ok2.sep b (.inl q)] at e; cases e) fun q => by rw [q, gP] at e; cases e
  · rw [del_ne fun z => n2c w (by rw [← z]; exact e)]
    exact nFc b w e (fun q => hf (.inl q)) fun q => hf (.inr (by rw [q]; exact List.mem_map.mpr ⟨_, mem, rfl⟩))
  · refine rs.st H' _ nx.i fun b w hf e => ?_
    rw [del_ne]
    · exact e
    · rintro rfl
      rcases hf with hf | ⟨q, z⟩
      · obtain ⟨w2, hw2⟩ := rs.has H2 b ok2.i.1 hf
        exact n2c w2 hw2
      · rw [at'] at e
        cases Option.some.inj e
        exact nomatch z
  · intro p' hp'
    have t5 := ((T3 p' hp').ext e1).ext e2
    refine tabS_stay t5 (fun ps e => ?_) fun c0 e => ?_
    · rw [del_ne]
      · exact nx.h _ _ e fun hf => (nt _ _ _ i5 hf e).1 ps (Eq.refl _)
      · intro z
        rw [z, upd_same] at e
        exact nomatch Option.some.inj e
    · rw [del_ne]
      · exact nx.h _ _ e fun hf => (nt _ _ _ i5 hf e).2 ⟨_, Eq.refl _⟩
      · intro z
        rw [z, upd_same] at e
        exact nomatch Option.some.inj e
end
end HW
/-! Own layer, part Lc: classes of the text; instances without fields. -/
namespace HW
open PySem PySem.Spec PyProof.Rows L2 RZ NdefX

/-- a class without __init__ -/
structure Mk0 (K : PySem.W.Frag) (C : Addr) : Prop where
  makes : PySem.W.makesIn K C = true
  init : PySem.W.findIn K (.ref C) "__init__" = some (some (.builtin "object.__init__"))
  top : PySem.W.mroIn K C (.type "object") = some true
  kp : PySem.W.keepIn K (.ref C) = true
section
variable {X : Cx} {rs : Rs} {M : Mem} {ρ : List (Option Ab)} {C : Addr} {x : Str} {pos p : Pos} {R : Ab → Prop}
theorem run_make0 {pins : List (Addr × Obj)} {σ : L2.St} {H : Hp} {s : Shared} {Q : VK} (N : Mk0 X.K C) (I : Inv X pins σ H s)
    (h : ∀ x dx, H x = none → H dx = none → dx ≠ x → Q (.ref x) (upd (upd H dx (.own x)) x (.ins C dx []))) : wpAny (model X.prog X.w) X.A (call (.ref C) []) (EP X pins σ Q) X.xe s := by
  have hq := h (s.heap.objs.size + 1) s.heap.objs.size (I.hok.fresh (Nat.le_succ _)) (I.hok.fresh (Nat.le_refl _)) (Nat.ne_of_lt (Nat.lt_succ_self _))
  have I2 := Inv.made (C := C) I
  refine wpAny_call (make_map0 I.kIn N.makes N.init (fun self => PySem.W.Looks.of_pure (PySem.W.oi_bind self)) ?_)
  obtain ⟨ob, ho, hc⟩ : ∃ ob, ((s.heap.push PySem.W.emptyDict).push (PySem.W.instObj C s.heap.objs.size)).get? (s.heap.objs.size + 1) = some ob ∧ ob.cls = .ref C := by
    have z := Heap.get?_push_size (s.heap.push PySem.W.emptyDict) (o := PySem.W.instObj C s.heap.objs.size) rfl
    rw [Heap.size_push] at z
    exact ⟨_, z, rfl⟩
  have t1 := NwA.type_at (M := model X.prog X.w) ho hc
  have t2 : PySem.W.Looks (model X.prog X.w) ((s.heap.push PySem.W.emptyDict).push (PySem.W.instObj C s.heap.objs.size)) (isInstance (.ref (s.heap.objs.size + 1)) (.type "object")) true := t1.andThen (PySem.W.looks_mroIn I2.kIn N.top)
  refine codeAny_call_builtin PySem.W.oi_plain PySem.W.entry_oi (@PySem.W.check_slot (model X.prog X.w) _ _ _ "object.__init__" "object" "__init__" (.ref (s.heap.objs.size + 1)) [] [] _ PySem.W.oi_kind PySem.W.oi_split t2 (NwA.oi_args_any (.ref (s.heap.objs.size + 1)) [] []) ?_)
  rw [PySem.W.oi_run]
  exact wpAny_pure ⟨rfl, ⟨V.ref (s.heap.objs.size + 1), _, I2, rfl, hq⟩⟩
theorem de_make0 (N : Mk0 X.K C) (hg : Gl X x) (hm : X.mg x = some (.ref C)) (hdb : (x == ("__debug__" : Str)) = false := by decide) : DE X rs M ρ (.Call (.Name x p) [] [] pos) (Is (aIns X.K C [])) := by
  refine ⟨fun pins s σ H Q I ⟨G, lo, ok, k⟩ => ?_⟩
  refine wpAny_Call_Name_kw (ld_glob I hg hm ?_ hdb)
  refine PySem.W.callWith_K0 I.kIn N.kp (run_make0 N I fun y dy hy hdy ne => ?_)
  have n2 : Nxt rs G H G (upd H dy (.own y)) := Nxt.newM ok hdy
  have hy2 : upd H dy (.own y) y = none := by
    rw [upd_ne ne.symm]
    exact hy
  have n3 := Nxt.new (ok.nxt n2) (o := .ins C dy []) hy2
  exact k _ (aIns X.K C []) _ _ rfl (ins_rep ⟨y, dy, [], rfl, upd_same, rfl, trivial⟩) (n2.trans n3 ok)
end
/-- a class that the top leaves; its methods -/
structure Cdf (K : PySem.W.Frag) (mg : Str → Option Value) (x : Str) : Type where
  C : Addr
  g : mg x = some (.ref C)
  c : Cls K C
structure Mdf (K : PySem.W.Frag) (C : Addr) (m qual : Str) (st : Stmt) : Type where
  f : Addr
  fd : FuncData
  F : Fun K m qual st f fd
  m : Meth K C m f
structure Idf (K : PySem.W.Frag) (C : Addr) (qual : Str) (st : Stmt) : Type where
  f : Addr
  fd : FuncData
  F : Fun K "__init__" qual st f fd
  m : Mk K C f
end HW
/-! Own layer, part Ld: programs read term by term: the parts that are used, the values of terms by what they do. -/
namespace HW
open PySem PySem.Spec PyProof.Rows L2 RZ
mutual
def Trm.parts : Trm → List Nat
  | .act _ => []
  | .part g => [g]
  | .row ts => Trm.partss ts
  | .back t => t.parts
  | .times t k => if k = 0 then [] else t.parts
def Trm.partss : List Trm → List Nat
  | [] => []
  | t :: ts => t.parts ++ Trm.partss ts
end
theorem partss_map : ∀ ts : List Trm, Trm.partss ts = (ts.map Trm.parts).flatten
  | [] => by simp only [Trm.partss, List.map_nil, List.flatten_nil]
  | t :: ts => by simp only [Trm.partss, List.map_cons, List.flatten_cons, partss_map ts]
def Dep : Nat → Trm → Prop
  | _, .act _ => True
  | _, .part _ => True
  | 0, _ => False
  | h + 1, .row ts => ∀ t ∈ ts, Dep h t
  | h + 1, .back t => Dep h t
  | h + 1, .times t _ => Dep h t
theorem dep_of_lim {r n g : Nat} {ks : List Str} : ∀ (h : Nat) (t : Trm), Lim r n g ks h t → Dep h t
  | 0, .act _, _ => trivial
  | _ + 1, .act _, _ => trivial
  | 0, .part _, _ => trivial
  | _ + 1, .part _, _ => trivial
  | 0, .row _, q => q.elim
  | 0, .back _, q => q.elim
  | 0, .times _ _, q => q.elim
  | h + 1, .row ts, q => fun t ht => dep_of_lim h t (q.2 t ht)
  | h + 1, .back t, q => dep_of_lim h t q
  | h + 1, .times t _, q => dep_of_lim h t q.2
theorem parts_lt {r n g : Nat} {ks : List Str} : ∀ (h : Nat) (t : Trm), Lim r n g ks h t → ∀ p ∈ t.parts, p < g
  | 0, .act _, _, p, hp => by simp [Trm.parts] at hp
  | _ + 1, .act _, _, p, hp => by simp [Trm.parts] at hp
  | 0, .part _, q, p, hp => by
    simp only [Trm.parts, List.mem_singleton] at hp
    rw [hp]
    exact q
  | _ + 1, .part _, q, p, hp => by
    simp only [Trm.parts, List.mem_singleton] at hp
    rw [hp]
    exact q
  | 0, .row _, q, _, _ => q.elim
  | 0, .back _, q, _, _ => q.elim
  | 0, .times _ _, q, _, _ => q.elim
  | h + 1, .row ts, q, p, hp => by
    simp only [Trm.parts, partss_map, List.mem_flatten, List.mem_map] at hp
    obtain ⟨l, ⟨t, ht, rfl⟩, hp⟩ := hp
    exact parts_lt h t (q.2 t ht) p hp
  | h + 1, .back t, q, p, hp => by
    simp only [Trm.parts] at hp
    exact parts_lt h t q p hp
  | h + 1, .times t k, q, p, hp => by
    simp only [Trm.parts] at hp
    split at hp
    · cases hp
    · exact parts_lt h t q.2 p hp
theorem parts_len {r n g : Nat} {ks : List Str} (hr : 1 ≤ r) : ∀ (h : Nat) (t : Trm), Lim r n g ks h t → t.parts.length ≤ r ^ h
  | h, .act _, _ => by simp [Trm.parts]
  | h, .part _, _ => by
    simp only [Trm.parts, List.length_singleton]
    exact Nat.pow_pos hr
  | 0, .row _, q => q.elim
  | 0, .back _, q => q.elim
  | 0, .times _ _, q => q.elim
  | h + 1, .row ts, q => by
    simp only [Trm.parts, partss_map]
    refine Nat.le_trans (flat_len_sum ts fun t ht => parts_len hr h t (q.2 t ht)) ?_
    rw [Nat.pow_succ, Nat.mul_comm (r ^ h) r]
    exact Nat.mul_le_mul_right _ q.1
  | h + 1, .back t, q => by
    simp only [Trm.parts]
    exact Nat.le_trans (parts_len hr h t q) (Nat.pow_le_pow_right hr (Nat.le_succ h))
  | h + 1, .times t k, q => by
    simp only [Trm.parts]
    split
    · exact Nat.zero_le _
    · exact Nat.le_trans (parts_len hr h t q.2) (Nat.pow_le_pow_right hr (Nat.le_succ h))
/-- all that is done of a term may be read: ok tells which rows of deeds -/
def Good (ok : List Stp → Prop) (wd : Dd → Prop) (ps : List (List Stp)) : Nat → Trm → Prop
  | _, .act d => wd d
  | _, .part _ => True
  | 0, _ => False
  | h + 1, .row ts => ts.length ≤ 1000 ∧ ok ((Trm.row ts).flat ps) ∧ ∀ t ∈ ts, ok (t.flat ps) ∧ Good ok wd ps h t
  | h + 1, .back t => ok (t.flat ps) ∧ Good ok wd ps h t
  | h + 1, .times t k => if k = 0 then ok [] else ok (t.flat ps) ∧ ok ((Trm.times t k).flat ps) ∧ Good ok wd ps h t
/-- the methods of a reading: the value of a row of deeds is val of it -/
structure Rdg (P : Program) (w : World) (K : PySem.W.Frag) (mg : Str → Option Value) (base : Heap) (k : Nat) (C : Addr) (fs : List (Str × Ab)) (val : List Stp → PyData) (ok : List Stp → Prop) (wd : Dd → Prop) : Prop where
  cls : Cls K C
  deed : ∃ f fd, Meth K C "of_deed" f ∧ Binds K fd ["self", "deed"] [] ∧ FnG P w K mg base CX0 k f fd ["self", "deed"] (Spec K fun rs M as R => ∃ d, as = [aIns K C fs, aT d.row] ∧ wd d ∧ R = Is (.d (val [(d, false)])))
  row : ∃ f fd p, Meth K C "of_row" f ∧ Binds K fd ["self", p] [] ∧ FnG P w K mg base CX0 k f fd ["self", p] (Spec K fun rs M as R => ∃ ls : List (List Stp), as = [aIns K C fs, aL (ls.map val)] ∧ ls.length ≤ 1000 ∧ (∀ l ∈ ls, ok l) ∧ ok ls.flatten ∧ R = Is (.d (val ls.flatten)))
  back : ∃ f fd p, Meth K C "of_back" f ∧ Binds K fd ["self", p] [] ∧ FnG P w K mg base CX0 k f fd ["self", p] (Spec K fun rs M as R => ∃ l, as = [aIns K C fs, .d (val l)] ∧ ok l ∧ R = Is (.d (val (turned l))))
  times : ∃ f fd p, Meth K C "of_times" f ∧ Binds K fd ["self", p, "times"] [] ∧ FnG P w K mg base CX0 k f fd ["self", p, "times"] (Spec K fun rs M as R => ∃ l, ∃ m : Nat, as = [aIns K C fs, .d (val l), aI m] ∧ m ≠ 0 ∧ ok l ∧ ok (List.replicate m l).flatten ∧ R = Is (.d (val (List.replicate m l).flatten)))
  n1 : fs.lookup ("of_deed" : Str) = none
  n2 : fs.lookup ("of_row" : Str) = none
  n3 : fs.lookup ("of_back" : Str) = none
  n4 : fs.lookup ("of_times" : Str) = none
/-- the parts found so far -/
def foundD (val : List Stp → PyData) (ps : List (List Stp)) (gs : List Nat) : List (Key × Ab) := gs.map fun (g : Nat) => ((Sum.inl (g : Int) : Key), Ab.d (val (ps.getD g [])))

section
variable {X : Cx} {rs : Rs} {M : Mem} {ρ : List (Option Ab)} {tg iter tg1 iter1 elt : Expr} {scope : Scope} {own : List (Str × Nat)} {pos : Pos} {is is1 vs1 : List Nat} {T T1 : Ab → List (Option Ab) → List (Option Ab) → Prop} {RI : Nat → (Nat → Ab → Prop) → Prop} {U : List Ab → Prop}
/-- [.. for .. for ..], a new list -/
theorem dn_lc2 (Acc : Nat → (Nat → Ab → Prop) → Nat → List Ab → Prop) (hi : DI X rs M ρ tg iter RI) (hc : X.calm = true) (hN : X.N.Nodup) (ok : BlkOk X.N X.env.scope scope own) (hg : AllBlk X scope (fun Y => DG Y tg is T)) (hg1 : AllBlk X scope (fun Y => DG Y tg1 is1 T1)) (h0 : ∀ n item, RI n item → Acc n item 0 [])
    (hs : ∀ n item i acc a, RI n item → i < n → Acc n item i acc → item i a → ∃ ρ' RI1, T a (wipeA ρ (own.map (·.2))) ρ' ∧ AllBlk X scope (fun Y => DI Y rs M ρ' tg1 iter1 RI1) ∧
      ∀ n1 item1, RI1 n1 item1 → ∃ Acc1 : Nat → List Ab → Prop, Acc1 0 acc ∧ (∀ j acc' b, j < n1 → Acc1 j acc' → item1 j b → acc'.length ≤ 100000 ∧ ∃ ρ'', T1 b (wipeA ρ' vs1) ρ'' ∧ AllBlk X scope (fun Y => DE Y rs M ρ'' elt (fun z => Acc1 (j + 1) (acc' ++ [z])))) ∧
        ∀ acc', Acc1 n1 acc' → Acc n item (i + 1) acc')
    (hd : ∀ n item acc, RI n item → Acc n item n acc → U acc) (his : ∀ i ∈ is, i ∈ own.map (·.2)) (his1 : ∀ i ∈ is1, i ∈ vs1) (hv : ∀ i ∈ vs1, i ∈ own.map (·.2))
    (hf : ∀ x, foldedSetIterable iter X.env x = pure x := by intro _; rfl) (hf1 : ∀ env x, foldedSetIterable iter1 env x = pure x := by intro _ _; rfl) : DN X rs M ρ (.ListComp elt [⟨tg, iter, [], 0⟩, ⟨tg1, iter1, [], 0⟩] scope pos) U :=
  pe_weak (pe_lc2 hc hN hi ok hv (fun s H C cl fp => hg s H C cl fp) (tt := TtYes) (tt1 := TtYes)
    (wi1 := fun σ H R => ∃ ρ' RI1, AllBlk X scope (fun Y => DI Y rs M ρ' tg1 iter1 RI1) ∧ tDI X.K rs M ρ' RI1 σ H R)
    (te := fun σ H Q => ∃ ρ' R, AllBlk X scope (fun Y => DE Y rs M ρ' elt R) ∧ tD X.K rs M ρ' R σ H Q) (fun s H C cl fp => pts_nil)
    (fun s H C cl fp => ⟨fun pins s1 σ H1 R I ⟨ρ', RI1, hR, q⟩ => (hR s H C cl fp).run pins s1 σ H1 R I q⟩) (fun s H C cl fp => hg1 s H C cl fp) (fun s H C cl fp => pts_nil)
    (fun s H C cl fp => ⟨fun pins s1 σ H1 Q I ⟨ρ', R, hR, q⟩ => (hR s H C cl fp).run pins s1 σ H1 Q I q⟩) hf hf1) fun σ H Q h => lc2_read Acc h0 hs hd his his1 h
end

section
variable {X : Cx} {Ff : Addr → Prop} {S : Sta} {pos : Pos}
theorem dx_dnew {U : Sta → Ab → Prop} (k : ∀ q, U ⟨S.rs, ⟨q, true, .dct []⟩ :: S.M, S.ρ⟩ (.at q)) : DX X Ff S (.Dict [] [] pos) U := fun G0 H0 =>
  pe_weak pe_dnewK fun σ H Q ⟨G, s, kk⟩ p hp => by
    have n := Nxt.newM (o := .dK []) s.ok hp
    exact kk _ (.ref p) (.at p) G _ (k p) rfl (s.pushM n ⟨[], upd_same, rfl, trivial⟩ (s.ok.gnone hp) hp) n.g
end
def Trm.idle : Trm → Bool
  | .times _ k => decide (k = 0)
  | _ => false
/-- a program whose parts lead back -/
structure ProgOk (h : Nat) (ts : List Trm) : Prop where
  ne : ts ≠ []
  len : ts.length ≤ 1000
  all : ∀ (j : Nat) (t : Trm), ts[j]? = some t → Dep h t ∧ (∀ p ∈ t.parts, p < j) ∧ t.parts.length ≤ 100000
/-- what is done at all -/
structure Used (ts : List Trm) (us : List Bool) : Prop where
  len : us.length = ts.length
  last : us[ts.length - 1]? = some true
  all : ∀ (j : Nat) (t : Trm), us[j]? = some true → ts[j]? = some t → ∀ p ∈ t.parts, us[p]? = some true
theorem parts_flat_len {B : Nat} : ∀ {ts : List Trm}, ((ts.map Trm.parts).flatten).length ≤ B → ∀ {t : Trm}, t ∈ ts → t.parts.length ≤ B
  | [], _, _, h => by cases h
  | u :: ts, h, t, ht => by
    rw [List.map_cons, List.flatten_cons, List.length_append] at h
    rcases List.mem_cons.mp ht with rfl | ht
    · omega
    · exact parts_flat_len (ts := ts) (by omega) ht
theorem parts_at_len {ts : List Trm} {i : Nat} {t : Trm} (h : ts[i]? = some t) : ((ts.take i).map Trm.parts).flatten.length + t.parts.length ≤ ((ts.map Trm.parts).flatten).length := by
  have e : ts = ts.take (i + 1) ++ ts.drop (i + 1) := (List.take_append_drop _ _).symm
  have e2 := congrArg (fun l : List Trm => ((l.map Trm.parts).flatten).length) e
  simp only [List.map_append, List.flatten_append, List.length_append] at e2
  rw [take_snoc h, List.map_append, List.flatten_append, List.length_append] at e2
  simp only [List.map_cons, List.map_nil, List.flatten_cons, List.flatten_nil, List.append_nil] at e2
  rw [e2]
  omega

def mark (us : List Bool) (ps : List Nat) : List Bool := ps.foldl (fun u p => u.set p true) us
theorem mark_snoc (us : List Bool) (ps : List Nat) (p : Nat) : mark us (ps ++ [p]) = (mark us ps).set p true := by
  unfold mark
  rw [List.foldl_append]
  rfl
theorem mark_len : ∀ (ps : List Nat) (us : List Bool), (mark us ps).length = us.length
  | [], us => rfl
  | p :: ps, us => by
    show (mark (us.set p true) ps).length = _
    rw [mark_len ps, List.length_set]
theorem mark_out : ∀ (ps : List Nat) (us : List Bool) (q : Nat), q ∉ ps → (mark us ps)[q]? = us[q]?
  | [], us, q, _ => rfl
  | p :: ps, us, q, h => by
    show (mark (us.set p true) ps)[q]? = _
    rw [mark_out ps _ q fun z => h (List.mem_cons_of_mem _ z), List.getElem?_set_ne fun z => h (by rw [z]; exact List.mem_cons_self)]
theorem mark_keep : ∀ (ps : List Nat) (us : List Bool) (q : Nat), us[q]? = some true → (mark us ps)[q]? = some true
  | [], us, q, h => h
  | p :: ps, us, q, h => by
    refine mark_keep ps (us.set p true) q ?_
    by_cases e : p = q
    · rw [e, List.getElem?_set_self (List.getElem?_eq_some_iff.mp h).1]
    · rw [List.getElem?_set_ne e]
      exact h
theorem mark_in : ∀ (ps : List Nat) (us : List Bool) (q : Nat), q ∈ ps → q < us.length → (mark us ps)[q]? = some true
  | p :: ps, us, q, h, hl => by
    show (mark (us.set p true) ps)[q]? = _
    by_cases e : q ∈ ps
    · exact mark_in ps _ q e (by rw [List.length_set]; exact hl)
    · have e2 : q = p := (List.mem_cons.mp h).resolve_right e
      subst e2
      rw [mark_out ps _ q e, List.getElem?_set_self hl]
/-- the places from g on lead to marked ones -/
structure UsedFrom (ts : List Trm) (us : List Bool) (g : Nat) : Prop where
  len : us.length = ts.length
  last : us[ts.length - 1]? = some true
  all : ∀ (j : Nat) (t : Trm), g ≤ j → us[j]? = some true → ts[j]? = some t → ∀ p ∈ t.parts, us[p]? = some true
theorem used_mark {h : Nat} {ts : List Trm} {us : List Bool} {g : Nat} {t : Trm} (P : ProgOk h ts) (hg : ts[g]? = some t) (U : UsedFrom ts us (g + 1)) : UsedFrom ts (mark us t.parts) g where
  len := (mark_len _ _).trans U.len
  last := mark_keep _ _ _ U.last
  all := fun j u hj e1 e2 p hp => by
    have hlt := (P.all g t hg).2.1
    have lg := (List.getElem?_eq_some_iff.mp hg).1
    by_cases e : j = g
    · subst e
      rw [hg] at e2
      cases Option.some.inj e2
      exact mark_in _ _ _ hp (by rw [U.len]; have := hlt p hp; omega)
    · have nj : j ∉ t.parts := fun z => by have := hlt j z; omega
      rw [mark_out _ _ _ nj] at e1
      exact mark_keep _ _ _ (U.all j u (by omega) e1 e2 p hp)
theorem used_skip {ts : List Trm} {us : List Bool} {g : Nat} (h : us[g]? = some false) (U : UsedFrom ts us (g + 1)) : UsedFrom ts us g where
  len := U.len
  last := U.last
  all := fun j u hj e1 e2 p hp => by
    by_cases e : j = g
    · subst e
      rw [h] at e1
      cases e1
    · exact U.all j u (by omega) e1 e2 p hp
theorem bools_set (us : List Bool) (j : Nat) (b : Bool) : ((us.map PyData.bool).map Ab.d).set j (aB b) = ((us.set j b).map PyData.bool).map Ab.d := by
  rw [List.map_set, List.map_set]

/-! ### the rows of deeds of a whole program -/
theorem flat_congr {ps qs : List (List Stp)} : ∀ (h : Nat) (t : Trm), Dep h t → (∀ p ∈ t.parts, ps.getD p [] = qs.getD p []) → t.flat ps = t.flat qs
  | 0, .act _, _, _ => by simp only [Trm.flat]
  | _ + 1, .act _, _, _ => by simp only [Trm.flat]
  | 0, .part g, _, e => by
    simp only [Trm.flat]
    exact e g (by simp [Trm.parts])
  | _ + 1, .part g, _, e => by
    simp only [Trm.flat]
    exact e g (by simp [Trm.parts])
  | 0, .row _, q, _ => q.elim
  | 0, .back _, q, _ => q.elim
  | 0, .times _ _, q, _ => q.elim
  | h + 1, .row ts, q, e => by
    simp only [Trm.flat, flats_map]
    simp only [Trm.parts, partss_map] at e
    congr 1
    exact List.map_congr_left fun t ht => flat_congr h t (q t ht) fun p hp => e p (List.mem_flatten.mpr ⟨_, List.mem_map.mpr ⟨t, ht, rfl⟩, hp⟩)
  | h + 1, .back t, q, e => by
    simp only [Trm.flat]
    rw [flat_congr h t q (by simpa only [Trm.parts] using e)]
  | h + 1, .times t k, q, e => by
    simp only [Trm.flat]
    by_cases hk : k = 0
    · rw [hk]
      rfl
    · simp only [Trm.parts, if_neg hk] at e
      rw [flat_congr h t q e]
theorem snoc_ind {α : Type} {P : List α → Prop} (h0 : P []) (h1 : ∀ xs x, P xs → P (xs ++ [x])) : ∀ xs, P xs := fun xs => by
  have h : ∀ ys : List α, P ys.reverse := fun ys => by
    induction ys with
    | nil => exact h0
    | cons y ys ih =>
      rw [List.reverse_cons]
      exact h1 _ _ ih
  have := h xs.reverse
  rwa [List.reverse_reverse] at this
theorem pflats_length : ∀ ts : List Trm, (pflats ts).length = ts.length := snoc_ind rfl fun ts t ih => by
  rw [pflats_snoc, List.length_append, List.length_append, ih]
  rfl
theorem pflats_take (j : Nat) : ∀ ts : List Trm, (pflats ts).take j = pflats (ts.take j) := snoc_ind (by rw [List.take_nil]; exact List.take_nil) fun ts t ih => by
  by_cases h : j ≤ ts.length
  · rw [pflats_snoc, List.take_append_of_le_length (by rw [pflats_length]; exact h), List.take_append_of_le_length h, ih]
  · rw [List.take_of_length_le (by rw [pflats_length, List.length_append]; show ts.length + 1 ≤ j; omega), List.take_of_length_le (by rw [List.length_append]; show ts.length + 1 ≤ j; omega)]
theorem flat_at {h : Nat} {ts : List Trm} {j : Nat} {t : Trm} (P : ProgOk h ts) (hj : ts[j]? = some t) : (pflats ts).getD j [] = t.flat (pflats ts) := by
  obtain ⟨d1, d2, _⟩ := P.all j t hj
  have lj := (List.getElem?_eq_some_iff.mp hj).1
  have e1 : (pflats ts)[j]? = some (t.flat (pflats (ts.take j))) := by
    have e2 : pflats (ts.take (j + 1)) = pflats (ts.take j) ++ [t.flat (pflats (ts.take j))] := by rw [take_snoc hj, pflats_snoc]
    have e3 : (pflats ts)[j]? = ((pflats ts).take (j + 1))[j]? := (List.getElem?_take_of_lt (Nat.lt_succ_self j)).symm
    rw [e3, pflats_take, e2, List.getElem?_append_right (by rw [pflats_length, List.length_take]; omega), pflats_length, List.length_take, Nat.min_eq_left (Nat.le_of_lt lj), Nat.sub_self]
    rfl
  rw [List.getD_eq_getElem?_getD, e1]
  refine flat_congr h t d1 fun p hp => ?_
  rw [← pflats_take, List.getD_eq_getElem?_getD, List.getD_eq_getElem?_getD, List.getElem?_take_of_lt (d2 p hp)]
theorem valA_put_same (kvs : List (Key × Ab)) (k : Key) (a : Ab) : valA (putA kvs k a) k = some a := by
  unfold putA
  split
  · rename_i h
    induction kvs with
    | nil => cases h
    | cons kv kvs ih =>
      rw [List.map_cons]
      by_cases e : kv.1 = k
      · rw [if_pos e]
        unfold valA
        rw [List.find?_cons]
        simp [e]
      · rw [if_neg e]
        have hr : (kvs.any fun kv => decide (kv.1 = k)) = true := by
          rw [List.any_cons, decide_eq_false e, Bool.false_or] at h
          exact h
        have z := ih hr
        unfold valA at z ⊢
        rw [List.find?_cons, show decide (kv.1 = k) = false from decide_eq_false e]
        exact z
  · rename_i h
    have hn : ∀ kv ∈ kvs, ¬ kv.1 = k := fun kv hkv e => h (List.any_eq_true.mpr ⟨kv, hkv, decide_eq_true e⟩)
    unfold valA
    rw [List.find?_append, List.find?_eq_none.mpr fun kv hkv => by simpa using hn kv hkv]
    simp
theorem valA_put_ne (kvs : List (Key × Ab)) {k k' : Key} (a : Ab) (ne : k' ≠ k) : valA (putA kvs k a) k' = valA kvs k' := by
  unfold putA
  split
  · unfold valA
    induction kvs with
    | nil => rfl
    | cons kv kvs ih =>
      rename_i h
      by_cases e : kv.1 = k
      · have e' : ¬ kv.1 = k' := fun z => ne (z.symm.trans e)
        have ih' : Option.map (·.2) (List.find? (fun kv => decide (kv.1 = k')) (kvs.map fun kv => if kv.1 = k then (kv.1, a) else kv)) = Option.map (·.2) (List.find? (fun kv => decide (kv.1 = k')) kvs) := by
          by_cases hr : (kvs.any fun kv => decide (kv.1 = k)) = true
          · exact ih hr
          · have hn : ∀ kv ∈ kvs, ¬ kv.1 = k := fun kv hkv e => hr (List.any_eq_true.mpr ⟨kv, hkv, decide_eq_true e⟩)
            rw [List.map_congr_left (g := id) fun kv hkv => by rw [if_neg (hn kv hkv)]; rfl, List.map_id]
        rw [List.map_cons, if_pos e, List.find?_cons, List.find?_cons]
        simp only [decide_eq_false e']
        exact ih'
      · have hr : (kvs.any fun kv => decide (kv.1 = k)) = true := by
          rw [List.any_cons, decide_eq_false e, Bool.false_or] at h
          exact h
        rw [List.map_cons, if_neg e, List.find?_cons, List.find?_cons]
        split
        · rfl
        · exact ih hr
  · unfold valA
    rw [List.find?_append]
    cases q : List.find? (fun kv => decide (kv.1 = k')) kvs with
    | some y => simp
    | none => simp [Ne.symm ne]
theorem putA_len (kvs : List (Key × Ab)) (k : Key) (a : Ab) : (putA kvs k a).length ≤ kvs.length + 1 := by
  unfold putA
  split
  · rw [List.length_map]
    omega
  · rw [List.length_append]
    exact Nat.le_refl _

theorem nd_me {e0 : Me} (j k : Nat) (e f : Me) (hj : ([e0] : Mem)[j]? = some e) (hk : ([e0] : Mem)[k]? = some f) (_ : e.p = f.p) : j = k := by
  have := (List.getElem?_eq_some_iff.mp hj).1
  have := (List.getElem?_eq_some_iff.mp hk).1
  simp only [List.length_cons, List.length_nil] at *
  omega

/-! ### how many deeds of some kinds -/
def cnt (ks : List Str) (f : List Stp) : Int := ((f.filter fun s => decide (s.1.word ∈ ks)).length : Nat)
theorem cnt_nil (ks : List Str) : cnt ks [] = 0 := rfl
theorem cnt_nn (ks : List Str) (f : List Stp) : 0 ≤ cnt ks f := Int.natCast_nonneg _
theorem cnt_append (ks : List Str) (f g : List Stp) : cnt ks (f ++ g) = cnt ks f + cnt ks g := by
  unfold cnt
  rw [List.filter_append, List.length_append]
  omega
theorem cnt_flat (ks : List Str) : ∀ ls : List (List Stp), cnt ks ls.flatten = (ls.map (cnt ks)).sum
  | [] => rfl
  | l :: ls => by rw [List.flatten_cons, cnt_append, cnt_flat ks ls, List.map_cons, List.sum_cons]
theorem cnt_turned (ks : List Str) (f : List Stp) : cnt ks (turned f) = cnt ks f := by
  unfold cnt turned
  rw [List.filter_map, List.length_map]
  show ((List.filter (fun s : Stp => decide (s.1.word ∈ ks)) f.reverse).length : Int) = _
  rw [List.filter_reverse, List.length_reverse]
theorem cnt_rep (ks : List Str) (f : List Stp) : ∀ k : Nat, cnt ks (List.replicate k f).flatten = cnt ks f * k
  | 0 => by simp [cnt_nil]
  | k + 1 => by
    rw [List.replicate_succ, List.flatten_cons, cnt_append, cnt_rep ks f k, Int.natCast_succ, Int.mul_add, Int.mul_one, Int.add_comm]
theorem cnt_le (ks : List Str) (f : List Stp) : cnt ks f ≤ f.length := by
  unfold cnt
  have := List.length_filter_le (fun s : Stp => decide (s.1.word ∈ ks)) f
  omega
/-- what is kept of a number -/
structure KeepG (g : Int → Int) : Prop where
  g0 : g 0 = 0
  g1 : g 1 = 1
  add : ∀ a b, 0 ≤ a → 0 ≤ b → g (g a + b) = g (a + b)
  mul : ∀ (a : Int) (m : Nat), 0 ≤ a → g (g a * m) = g (a * m)
  nn : ∀ a, 0 ≤ a → 0 ≤ g a
  lt : ∀ a, 0 ≤ a → g a < 2 ^ 64
theorem keep_min {l : Int} (h : 1 ≤ l) (h2 : l < 2 ^ 64) : KeepG (fun n => if l < n then l else n) where
  g0 := by
    show (if l < 0 then l else 0) = 0
    split <;> omega
  g1 := by
    show (if l < 1 then l else 1) = 1
    split <;> omega
  add := fun a b ha hb => by
    show (if l < (if l < a then l else a) + b then l else (if l < a then l else a) + b) = if l < a + b then l else a + b
    by_cases q : l < a
    · rw [if_pos q]
      split <;> split <;> omega
    · rw [if_neg q]
  mul := fun a m ha => by
    show (if l < (if l < a then l else a) * (m : Int) then l else (if l < a then l else a) * (m : Int)) = if l < a * (m : Int) then l else a * (m : Int)
    by_cases q : l < a
    · rw [if_pos q]
      cases m with
      | zero => simp
      | succ m =>
        have e1 : l ≤ l * ((m + 1 : Nat) : Int) := by
          have := Int.mul_le_mul_of_nonneg_left (c := l) (a := 1) (b := ((m + 1 : Nat) : Int)) (by omega) (by omega)
          omega
        have e2 : l * ((m + 1 : Nat) : Int) ≤ a * ((m + 1 : Nat) : Int) := Int.mul_le_mul_of_nonneg_right (by omega) (by omega)
        have e3 : a ≤ a * ((m + 1 : Nat) : Int) := by
          have := Int.mul_le_mul_of_nonneg_left (c := a) (a := 1) (b := ((m + 1 : Nat) : Int)) (by omega) (by omega)
          omega
        have r : (if l < a * ((m + 1 : Nat) : Int) then l else a * ((m + 1 : Nat) : Int)) = l := if_pos (by omega)
        rw [r]
        split <;> omega
    · rw [if_neg q]
  nn := fun a ha => by
    show 0 ≤ if l < a then l else a
    split <;> omega
  lt := fun a ha => by
    show (if l < a then l else a) < 2 ^ 64
    split <;> omega
theorem keep_par : KeepG (fun n => n % 2) where
  g0 := by decide
  g1 := by decide
  add := fun a b _ _ => by
    show (a % 2 + b) % 2 = (a + b) % 2
    omega
  mul := fun a m _ => by
    show (a % 2 * (m : Int)) % 2 = (a * (m : Int)) % 2
    rw [Int.mul_emod, Int.emod_emod_of_dvd _ (Int.dvd_refl 2), ← Int.mul_emod]
  nn := fun a _ => Int.emod_nonneg _ (by decide)
  lt := fun a _ => Int.lt_trans (Int.emod_lt_of_pos a (by decide)) (by decide)
theorem keep_sum {g : Int → Int} (k : KeepG g) : ∀ ns : List Int, (∀ n ∈ ns, 0 ≤ n) → g ((ns.map g).sum) = g ns.sum ∧ 0 ≤ (ns.map g).sum ∧ 0 ≤ ns.sum
  | [], _ => ⟨rfl, Int.le_refl _, Int.le_refl _⟩
  | n :: ns, h => by
    obtain ⟨h1, h2, h3⟩ := keep_sum k ns fun m hm => h m (List.mem_cons_of_mem _ hm)
    have hn := h n List.mem_cons_self
    have hg := k.nn n hn
    rw [List.map_cons, List.sum_cons, List.sum_cons]
    refine ⟨?_, by omega, by omega⟩
    rw [k.add n _ hn h2, Int.add_comm, ← k.add _ n h2 hn, h1, k.add _ n h3 hn, Int.add_comm]
/-- the value of a row of deeds as a kept number of some kinds -/
def tallyV (ks : List Str) (g : Int → Int) (f : List Stp) : PyData := .int (g (cnt ks f))

theorem itOk_rev {K : PySem.W.Frag} {G : Hp} {a : Addr} {xs : List V} {ds : List PyData} (h : SqL K G a xs) (r : DpAll K G xs ds) : ItOk K G (Itv K a xs.length) ds.length (AtD ds.reverse) := fun rs M G1 H1 e ok => by
  have h1 : SqL K H1 a xs := sqL_same (e.trans ok.gh) h
  have r' := repAll_dp.mpr r
  have ln : xs.length = ds.length := by rw [r'.length, List.length_map]
  refine ⟨fun i hi => ?_, Nat.le_of_eq ln⟩
  have hx : xs[xs.length - 1 - i]? = some (xs[xs.length - 1 - i]'(by omega)) := List.getElem?_eq_getElem _
  refine ⟨⟨by omega, xs, _, h1, hx⟩, fun x H2 y => ?_⟩
  obtain ⟨rfl, y⟩ := y
  obtain ⟨b, hb, rb⟩ := r'.get' (y xs h1)
  refine ⟨b, G1, ?_, rb.same e, Nxt.rfl ok⟩
  show (ds.reverse.map Ab.d)[i]? = some b
  rw [List.map_reverse, List.getElem?_reverse (by rw [List.length_map]; exact hi), List.length_map, ← ln]
  exact hb
section
variable {X : Cx} {rs : Rs} {M : Mem} {ρ : List (Option Ab)} {tg e : Expr} {RI : Nat → (Nat → Ab → Prop) → Prop} {p pos : Pos} {ds : List PyData}
/-- reversed(l), a list that is data -/
theorem di_revL (hm : X.mg "reversed" = none) (ha : DE X rs M ρ e (Is (aL ds))) (w : RI ds.length (AtD ds.reverse)) (hg : Gl X "reversed" := by rfl) (hs : starEach [e] X.env = [(false, eval e X.env)] := by rfl) : DI X rs M ρ tg (.Call (.Name "reversed" p) [e] [] pos) RI :=
  pi_weak (pi_reversed hg hm (da_cons ha da_nil hs) hs) fun σ H T ⟨G, l, ok, k⟩ => ⟨G, l, ok, fun vs as G1 H1 ra rep n => by
    subst ra
    obtain ⟨v, rfl, r1⟩ := repAll_one rep
    have r1 : Dp X.K G1 v (.list ds) := r1
    cases r1 with
    | lst hq hd => exact ⟨_, _, rfl, .inl (.inl (n.gh _ _ hq)), k _ _ _ G1 H1 w (itOk_rev (.inl (.inl hq)) hd) n⟩⟩
end
/-- the value of a row of deeds as its steps, and those that undo them -/
def stepsV (f : List Stp) : PyData := .tuple [.list (stepsD f), .list (stepsD (turned f))]
theorem turned_append (f g : List Stp) : turned (f ++ g) = turned g ++ turned f := by
  unfold turned
  rw [List.reverse_append, List.map_append]
theorem turned_turned (f : List Stp) : turned (turned f) = f := by
  unfold turned
  rw [← List.map_reverse, List.reverse_reverse, List.map_map]
  refine (List.map_congr_left fun s _ => ?_).trans (List.map_id f)
  show (s.1, !!s.2) = s
  rw [Bool.not_not]
theorem turned_flat : ∀ ls : List (List Stp), turned ls.flatten = (ls.reverse.map turned).flatten
  | [] => rfl
  | l :: ls => by
    rw [List.flatten_cons, turned_append, turned_flat ls, List.reverse_cons, List.map_append, List.flatten_append]
    simp
theorem turned_rep (f : List Stp) (k : Nat) : turned (List.replicate k f).flatten = (List.replicate k (turned f)).flatten := by
  rw [turned_flat, List.reverse_replicate, List.map_replicate]
theorem flat_at_len {α : Type} {ls : List (List α)} {i : Nat} {l : List α} (h : ls[i]? = some l) : (ls.take i).flatten.length + l.length ≤ ls.flatten.length := by
  have e2 := congrArg (fun l : List (List α) => l.flatten.length) (List.take_append_drop (i + 1) ls).symm
  simp only [List.flatten_append, List.length_append] at e2
  rw [take_snoc h, List.flatten_append, List.length_append] at e2
  simp only [List.flatten_cons, List.flatten_nil, List.append_nil] at e2
  rw [e2]
  omega

section
variable {X : Cx} {rs : Rs} {M : Mem} {ρ : List (Option Ab)} {a : Expr} {ds : List PyData}
/-- a list that is data as a test -/
theorem dt_lstTrue (ha : DE X rs M ρ a (Is (aL ds))) (he : ∀ whole, isTrue a X.env whole = (do let v ← whole; standAt a.pos; holding [v] (truthy v)) := by intro _; rfl) : DT X rs M ρ a (fun c => c = !ds.isEmpty) :=
  pt_weak (pt_truth ha he) fun σ H Q ⟨G, l, ok, k⟩ => ⟨G, l, ok, fun v y G1 H1 ry rep n => by
    subst ry
    obtain ⟨p, vs, rfl, hq, ra⟩ : ∃ p vs, v = .ref p ∧ G1 p = some (.lst vs) ∧ RepAll X.K G1 vs (ds.map .d) := by
      have rep : Dp X.K G1 v (.list ds) := rep
      cases rep with
      | lst hq hd => exact ⟨_, _, rfl, hq, repAll_dp.mpr hd⟩
    refine ⟨!ds.isEmpty, .inl ⟨vs, .inl (.inl (n.gh _ _ hq)), ?_⟩, k _ G1 H1 rfl n⟩
    have := ra.length
    rw [List.length_map] at this
    cases vs <;> cases ds <;> simp at this <;> rfl⟩
end

/-- a module's number -/
def GlI (mg : Str → Option Value) (x : Str) (i : Int) : Prop := ∃ t, mg x = some (.int i t)
theorem de_globI {X : Cx} {rs : Rs} {M : Mem} {ρ : List (Option Ab)} {x : Str} {i : Int} {pos : Pos} (hg : Gl X x) (D : GlI X.mg x i) (hd : (x == ("__debug__" : Str)) = false := by decide) : DE X rs M ρ (.Name x pos) (Is (aI i)) := by
  obtain ⟨t, h⟩ := D
  exact pe_weak (pe_glob (v := .int i) hg h ⟨t, rfl⟩ hd) fun σ H Q ⟨G, l, ok, k⟩ => k _ _ G H rfl (Dp.int i) (Nxt.rfl ok)
/-- deeds done, and undone, one behind another -/
def stepS (v : Nat) (ws : List Int) (s : Stp) : List Int := s.1.act v (if s.2 then -1 else 1) ws
def runS (v : Nat) (f : List Stp) (ws : List Int) : List Int := f.foldl (stepS v) ws
theorem runS_len (v : Nat) : ∀ (f : List Stp) (ws : List Int), (runS v f ws).length = ws.length
  | [], _ => rfl
  | s :: f, ws => by
    show (runS v f (stepS v ws s)).length = _
    rw [runS_len v f]
    exact act_len s.1
theorem runS_inW (v : Nat) : ∀ (f : List Stp) (ws : List Int), InW v ws → InW v (runS v f ws)
  | [], _, h => h
  | s :: f, ws, h => runS_inW v f _ (h.act s.1)
theorem runS_snoc (v : Nat) (f : List Stp) (s : Stp) (ws : List Int) : runS v (f ++ [s]) ws = stepS v (runS v f ws) s := by
  unfold runS
  rw [List.foldl_append]
  rfl
/-- the lambda of a def's statement return f(e, C(e2, lambda ..)) -/
def lamOf (q x : Str) (fr : List Str) : List Stmt → LF
  | [.Return (some (.Call _ [_, .Call _ [_, .Lambda params body scope _] _ _] _ _)) _] => ⟨q, params, body, scope, x, fr⟩
  | _ => ⟨q, { posonlyargs := [], args := [], vararg := none, kwonlyargs := [], kw_defaults := [], kwarg := none, defaults := [] }, .Constant .none 0 ⟨0, 0, 0, 0⟩, { kind := .function, names := [], isGenerator := false, isCoroutine := false }, x, fr⟩
def minG (l : Int) (n : Int) : Int := if l < n then l else n
theorem noTab1 (D C : Addr) : NoTab (deckRs D C) := fun H b o h f e => by
  obtain ⟨cells, m, c, h1, h2, _⟩ := h
  rcases f with rfl | rfl
  · rw [h1] at e
    cases Option.some.inj e
    exact ⟨fun ps z => (nomatch z), fun ⟨q, z⟩ => nomatch z⟩
  · rw [h2] at e
    cases Option.some.inj e
    exact ⟨fun ps z => (nomatch z), fun ⟨q, z⟩ => nomatch z⟩
end HW
/-! Own layer, part Le: what rows of deeds keep: levels alike, doubles, noughts, columns; drawn terms may be read. -/
namespace HW
open PySem PySem.Spec PyProof.Rows L2 RZ
/-! ### terms -/
theorem Good.up {ok : List Stp → Prop} {wd : Dd → Prop} {ps : List (List Stp)} : ∀ (h : Nat) (t : Trm), Good ok wd ps h t → Good ok wd ps (h + 1) t
  | 0, .act _, q => q
  | _ + 1, .act _, q => q
  | 0, .part _, _ => trivial
  | _ + 1, .part _, _ => trivial
  | 0, .row _, q => q.elim
  | 0, .back _, q => q.elim
  | 0, .times _ _, q => q.elim
  | h + 1, .row ts, q => ⟨q.1, q.2.1, fun t ht => ⟨(q.2.2 t ht).1, Good.up h t (q.2.2 t ht).2⟩⟩
  | h + 1, .back t, q => ⟨q.1, Good.up h t q.2⟩
  | h + 1, .times t k, q => by
    have q : (if k = 0 then ok [] else ok (t.flat ps) ∧ ok ((Trm.times t k).flat ps) ∧ Good ok wd ps h t) := q
    show (if k = 0 then ok [] else ok (t.flat ps) ∧ ok ((Trm.times t k).flat ps) ∧ Good ok wd ps (h + 1) t)
    by_cases hk : k = 0
    · rw [if_pos hk] at q ⊢
      exact q
    · rw [if_neg hk] at q ⊢
      exact ⟨q.1, q.2.1, Good.up h t q.2.2⟩
theorem Dep.up : ∀ (h : Nat) (t : Trm), Dep h t → Dep (h + 1) t
  | 0, .act _, _ => trivial
  | _ + 1, .act _, _ => trivial
  | 0, .part _, _ => trivial
  | _ + 1, .part _, _ => trivial
  | 0, .row _, q => q.elim
  | 0, .back _, q => q.elim
  | 0, .times _ _, q => q.elim
  | h + 1, .row ts, q => fun t ht => Dep.up h t (q t ht)
  | h + 1, .back t, q => Dep.up h t q
  | h + 1, .times t _, q => Dep.up h t q
theorem good_lim {r n g b B : Nat} {ks : List Str} {ps : List (List Stp)} {ok : List Stp → Prop} (hok : ∀ f, f.length ≤ B → ok f) (hr : 1 ≤ r) (hr2 : r ≤ 1000) (hb : 1 ≤ b) (hp : ∀ f ∈ ps, f.length ≤ b) : ∀ (h : Nat) (t : Trm), b * r ^ h ≤ B → Lim r n g ks h t → Good ok (fun _ => True) ps h t
  | 0, .act _, _, _ => trivial
  | _ + 1, .act _, _, _ => trivial
  | 0, .part _, _, _ => trivial
  | _ + 1, .part _, _, _ => trivial
  | 0, .row _, _, q => q.elim
  | 0, .back _, _, q => q.elim
  | 0, .times _ _, _, q => q.elim
  | h + 1, .row ts, e, q => by
    have e1 : b * r ^ h ≤ B := Nat.le_trans (Nat.mul_le_mul_left b (Nat.pow_le_pow_right hr (Nat.le_succ h))) e
    exact ⟨by have := q.1; omega, hok _ (Nat.le_trans (lim_len hr hb hp (h + 1) (.row ts) q) e), fun t ht => ⟨hok _ (Nat.le_trans (lim_len hr hb hp h t (q.2 t ht)) e1), good_lim hok hr hr2 hb hp h t e1 (q.2 t ht)⟩⟩
  | h + 1, .back t, e, q => by
    have e1 : b * r ^ h ≤ B := Nat.le_trans (Nat.mul_le_mul_left b (Nat.pow_le_pow_right hr (Nat.le_succ h))) e
    exact ⟨hok _ (Nat.le_trans (lim_len hr hb hp h t q) e1), good_lim hok hr hr2 hb hp h t e1 q⟩
  | h + 1, .times t k, e, q => by
    have e1 : b * r ^ h ≤ B := Nat.le_trans (Nat.mul_le_mul_left b (Nat.pow_le_pow_right hr (Nat.le_succ h))) e
    show (if k = 0 then ok [] else ok (t.flat ps) ∧ ok ((Trm.times t k).flat ps) ∧ Good ok (fun _ => True) ps h t)
    split
    · exact hok _ (Nat.zero_le _)
    · exact ⟨hok _ (Nat.le_trans (lim_len hr hb hp h t q.2) e1), hok _ (Nat.le_trans (lim_len hr hb hp (h + 1) (.times t k) q) e), good_lim hok hr hr2 hb hp h t e1 q.2⟩
theorem flat_in {r n g : Nat} {ks : List Str} {ps : List (List Stp)} (hp : ∀ f ∈ ps, ∀ s ∈ f, s.1.Ok n ∧ s.1.word ∈ ks) : ∀ (h : Nat) (t : Trm), Lim r n g ks h t → ∀ s ∈ t.flat ps, s.1.Ok n ∧ s.1.word ∈ ks
  | 0, .act d, q, s, hs => by
    simp only [Trm.flat, List.mem_singleton] at hs
    rw [hs]
    exact q
  | _ + 1, .act d, q, s, hs => by
    simp only [Trm.flat, List.mem_singleton] at hs
    rw [hs]
    exact q
  | 0, .part g, _, s, hs => by
    simp only [Trm.flat, List.getD_eq_getElem?_getD] at hs
    cases e : ps[g]? with
    | none => rw [e] at hs; cases hs
    | some f => rw [e] at hs; exact hp f (List.mem_of_getElem? e) s hs
  | _ + 1, .part g, _, s, hs => by
    simp only [Trm.flat, List.getD_eq_getElem?_getD] at hs
    cases e : ps[g]? with
    | none => rw [e] at hs; cases hs
    | some f => rw [e] at hs; exact hp f (List.mem_of_getElem? e) s hs
  | 0, .row _, q, _, _ => q.elim
  | 0, .back _, q, _, _ => q.elim
  | 0, .times _ _, q, _, _ => q.elim
  | h + 1, .row ts, q, s, hs => by
    simp only [Trm.flat, flats_map, List.mem_flatten, List.mem_map] at hs
    obtain ⟨l, ⟨t, ht, rfl⟩, hs⟩ := hs
    exact flat_in hp h t (q.2 t ht) s hs
  | h + 1, .back t, q, s, hs => by
    simp only [Trm.flat] at hs
    unfold turned at hs
    obtain ⟨u, hu, rfl⟩ := List.mem_map.mp hs
    exact flat_in hp h t q u (List.mem_reverse.mp hu)
  | h + 1, .times t k, q, s, hs => by
    simp only [Trm.flat] at hs
    obtain ⟨l, hl, hs⟩ := List.mem_flatten.mp hs
    rw [(List.mem_replicate.mp hl).2] at hs
    exact flat_in hp h t q.2 s hs
theorem pflats_in {n : Nat} {ks : List Str} : ∀ ts : List Trm, (∀ (j : Nat) (t : Trm), ts[j]? = some t → ∃ r h, Lim r n j ks h t) → ∀ f ∈ pflats ts, ∀ s ∈ f, s.1.Ok n ∧ s.1.word ∈ ks :=
  snoc_ind (fun _ f hf => absurd hf List.not_mem_nil) fun ts t ih hl f hf => by
    rw [pflats_snoc] at hf
    have ih' := ih fun j u hj => hl j u (by rw [List.getElem?_append_left (List.getElem?_eq_some_iff.mp hj).1]; exact hj)
    rcases List.mem_append.mp hf with hf | hf
    · exact ih' f hf
    · rw [List.mem_singleton.mp hf]
      obtain ⟨r, h, hq⟩ := hl ts.length t (by rw [List.getElem?_append_right (Nat.le_refl _), Nat.sub_self]; rfl)
      exact flat_in ih' h t hq
/-! ### levels -/
section
variable {v n : Nat}
theorem new_lowS {m : Nat} (hm : m ≤ v) {ws : List Int} (hw : InW v ws) (s : Int) (d : Dd) : d.new v s ws % 2 ^ m = d.new m s (lowL m ws) := by
  cases d with
  | add i j =>
    show (ws.getD i 0 + s * ws.getD j 0) % 2 ^ v % 2 ^ m = ((lowL m ws).getD i 0 + s * (lowL m ws).getD j 0) % 2 ^ m
    rw [mod_mod hm, lowL_getD, lowL_getD]
    have e : ∀ a b p : Int, (a + s * b) % p = (a % p + s * (b % p)) % p := fun a b p => by
      rw [Int.emod_add_emod]
      have q : a + s * b = (a + s * (b % p)) + p * (s * (b / p)) := by
        have z : b % p + p * (b / p) = b := Int.emod_add_mul_ediv b p
        calc a + s * b = a + s * (b % p + p * (b / p)) := by rw [z]
          _ = _ := by rw [Int.mul_add, Int.mul_left_comm s p, Int.add_assoc]
      rw [q, Int.add_mul_emod_self_left]
    exact e _ _ _
  | one i =>
    show (ws.getD i 0 + s) % 2 ^ v % 2 ^ m = ((lowL m ws).getD i 0 + s) % 2 ^ m
    rw [mod_mod hm, lowL_getD, Int.emod_add_emod]
  | xor i j =>
    show bx _ _ % _ = bx _ _
    rw [bx_mod (hw.get i).1 (hw.get j).1, lowL_getD, lowL_getD]
  | and i j l =>
    show bx _ (ba _ _) % _ = bx _ (ba _ _)
    rw [bx_mod (hw.get i).1 (ba_nn _ _), ba_mod (hw.get j).1 (hw.get l).1, lowL_getD, lowL_getD, lowL_getD]
theorem lowL_inW (m : Nat) (ws : List Int) : InW m (lowL m ws) := fun x hx => by
  obtain ⟨y, _, rfl⟩ := List.mem_map.mp hx
  exact ⟨Int.emod_nonneg _ (Int.ne_of_gt (two_pow_pos m)), Int.emod_lt_of_pos _ (two_pow_pos m)⟩
theorem act_lowS {m : Nat} (hm : m ≤ v) {ws : List Int} (hw : InW v ws) (s : Int) (d : Dd) : lowL m (d.act v s ws) = d.act m s (lowL m ws) := by
  unfold Dd.act
  rw [← new_lowS hm hw s d]
  unfold lowL
  rw [List.map_set]
theorem runS_low {m : Nat} (hm : m ≤ v) : ∀ (f : List Stp) (ws : List Int), InW v ws → lowL m (runS v f ws) = runS m f (lowL m ws)
  | [], _, _ => rfl
  | s :: f, ws, hw => by
    show lowL m (runS v f (stepS v ws s)) = runS m f (stepS m (lowL m ws) s)
    rw [runS_low hm f (stepS v ws s) (hw.act s.1)]
    unfold stepS
    rw [act_lowS hm hw]
theorem runS_inj : ∀ (f : List Stp) (ws us : List Int), (∀ s ∈ f, s.1.Ok n) → ws.length = n → us.length = n → InW v ws → InW v us → runS v f ws = runS v f us → ws = us
  | [], _, _, _, _, _, _, _, e => e
  | s :: f, ws, us, ho, h1, h2, w1, w2, e => by
    have e : runS v f (stepS v ws s) = runS v f (stepS v us s) := e
    have e2 := runS_inj f _ _ (fun t ht => ho t (List.mem_cons_of_mem _ ht)) ((act_len s.1).trans h1) ((act_len s.1).trans h2) (w1.act s.1) (w2.act s.1) e
    have hd := ho s List.mem_cons_self
    unfold stepS at e2
    rw [← act_back hd h1 w1, e2, act_back hd h2 w2]
/-- how far two states are alike -/
structure Alike (v : Nat) (ws us : List Int) (k : Nat) : Prop where
  le : k ≤ v
  low : lowL k ws = lowL k us
  next : k < v → lowL (k + 1) ws ≠ lowL (k + 1) us
theorem alike_down {j k : Nat} (h : j ≤ k) {ws us : List Int} (e : lowL k ws = lowL k us) : lowL j ws = lowL j us := by rw [← lowL_low h, e, lowL_low h]
theorem Alike.one {ws us : List Int} {j k : Nat} (a : Alike v ws us j) (b : Alike v ws us k) : j = k := by
  rcases Nat.lt_trichotomy j k with h | h | h
  · exact absurd (alike_down h b.low) (a.next (Nat.lt_of_lt_of_le h b.le))
  · exact h
  · exact absurd (alike_down h a.low) (b.next (Nat.lt_of_lt_of_le h a.le))
theorem Alike.run {ws us : List Int} {k : Nat} {f : List Stp} (ho : ∀ s ∈ f, s.1.Ok n) (h1 : ws.length = n) (h2 : us.length = n) (w1 : InW v ws) (w2 : InW v us) (a : Alike v ws us k) : Alike v (runS v f ws) (runS v f us) k where
  le := a.le
  low := by rw [runS_low a.le f ws w1, runS_low a.le f us w2, a.low]
  next := fun h e => by
    rw [runS_low h f ws w1, runS_low h f us w2] at e
    exact a.next h (runS_inj f _ _ ho ((lowL_len _ _).trans h1) ((lowL_len _ _).trans h2) (lowL_inW _ _) (lowL_inW _ _) e)
/-! ### doubles, noughts -/
theorem dblL_inW (v : Nat) (ws : List Int) : InW v (dblL v ws) := fun x hx => by
  obtain ⟨y, _, rfl⟩ := List.mem_map.mp hx
  exact ⟨Int.emod_nonneg _ (Int.ne_of_gt (two_pow_pos v)), Int.emod_lt_of_pos _ (two_pow_pos v)⟩
theorem act_dbl1 {ws : List Int} (hw : InW v ws) {d : Dd} (h1 : d.word ≠ "one") : d.act v 1 (dblL v ws) = dblL v (d.act v 1 ws) := by
  unfold Dd.act
  rw [new_dbl hw h1]
  unfold dblL
  rw [List.map_set]
theorem step_dbl {s : Stp} {ws : List Int} (hd : s.1.Ok n) (hn : ws.length = n) (hw : InW v ws) (h1 : s.1.word ≠ "one") : stepS v (dblL v ws) s = dblL v (stepS v ws s) := by
  obtain ⟨d, b⟩ := s
  cases b with
  | false => exact act_dbl1 hw h1
  | true =>
    show d.act v (-1) (dblL v ws) = dblL v (d.act v (-1) ws)
    have e : d.act v 1 (d.act v (-1) ws) = ws := by
      have z := act_back (s := -1) hd hn hw
      rwa [Int.neg_neg] at z
    have e2 : dblL v ws = d.act v 1 (dblL v (d.act v (-1) ws)) := by rw [act_dbl1 (hw.act d) h1, e]
    rw [e2, act_back (s := 1) hd ((dblL_len _ _).trans ((act_len d).trans hn)) (dblL_inW _ _)]
theorem runS_dbl : ∀ (f : List Stp) (ws : List Int), (∀ s ∈ f, s.1.Ok n ∧ s.1.word ≠ "one") → ws.length = n → InW v ws → runS v f (dblL v ws) = dblL v (runS v f ws)
  | [], _, _, _, _ => rfl
  | s :: f, ws, ho, hn, hw => by
    have h1 := ho s List.mem_cons_self
    show runS v f (stepS v (dblL v ws) s) = dblL v (runS v f (stepS v ws s))
    rw [step_dbl h1.1 hn hw h1.2, runS_dbl f (stepS v ws s) (fun t ht => ho t (List.mem_cons_of_mem _ ht)) ((act_len s.1).trans hn) (hw.act s.1)]
theorem zeros_getD (n i : Nat) : (List.replicate n (0 : Int)).getD i 0 = 0 := by
  rw [List.getD_eq_getElem?_getD, List.getElem?_replicate]
  split <;> rfl
theorem step_zero {s : Stp} (h1 : s.1.word ≠ "one") : stepS v (List.replicate n 0) s = List.replicate n 0 := by
  obtain ⟨d, b⟩ := s
  have e : ∀ t : Int, d.new v t (List.replicate n 0) = 0 := fun t => by
    cases d with
    | add i j =>
      show ((List.replicate n (0 : Int)).getD i 0 + t * (List.replicate n (0 : Int)).getD j 0) % 2 ^ v = 0
      rw [zeros_getD, zeros_getD, Int.mul_zero, Int.zero_add, Int.zero_emod]
    | one i => exact absurd rfl h1
    | xor i j =>
      show bx ((List.replicate n (0 : Int)).getD i 0) ((List.replicate n (0 : Int)).getD j 0) = 0
      rw [zeros_getD, zeros_getD]
      rfl
    | and i j l =>
      show bx ((List.replicate n (0 : Int)).getD i 0) (ba ((List.replicate n (0 : Int)).getD j 0) ((List.replicate n (0 : Int)).getD l 0)) = 0
      rw [zeros_getD, zeros_getD, zeros_getD]
      rfl
  show (List.replicate n (0 : Int)).set d.pl (d.new v _ (List.replicate n 0)) = _
  rw [e]
  apply List.ext_getElem?
  intro i
  rw [List.getElem?_set]
  split
  · rename_i h
    subst h
    rw [List.getElem?_replicate, List.length_replicate]
  · rfl
theorem runS_zero : ∀ f : List Stp, (∀ s ∈ f, s.1.word ≠ "one") → runS v f (List.replicate n 0) = List.replicate n 0
  | [], _ => rfl
  | s :: f, ho => by
    show runS v f (stepS v (List.replicate n 0) s) = _
    rw [step_zero (ho s List.mem_cons_self), runS_zero f fun t ht => ho t (List.mem_cons_of_mem _ ht)]
/-! ### columns -/
def colS (k : Nat) (ws : List Int) : List Int := ws.map fun x => x / 2 ^ k % 2
theorem colS_getD (k : Nat) (ws : List Int) (i : Nat) : (colS k ws).getD i 0 = ws.getD i 0 / 2 ^ k % 2 := by
  unfold colS
  rw [List.getD_eq_getElem?_getD, List.getD_eq_getElem?_getD, List.getElem?_map]
  cases ws[i]? with
  | none => show (0 : Int) = 0 / _ % 2; rw [Int.zero_ediv]; rfl
  | some x => rfl
theorem colS_inW (k : Nat) (ws : List Int) : InW 1 (colS k ws) := fun x hx => by
  obtain ⟨y, _, rfl⟩ := List.mem_map.mp hx
  exact ⟨Int.emod_nonneg _ (by decide), Int.emod_lt_of_pos _ (by decide)⟩
theorem bit_nat {x : Int} (hx : 0 ≤ x) (k : Nat) : x / 2 ^ k % 2 = ((x.toNat / 2 ^ k % 2 : Nat) : Int) := by
  obtain ⟨a, rfl⟩ := Int.eq_ofNat_of_zero_le hx
  rw [Int.toNat_natCast, ← HW.pow_int]
  omega
theorem bx_col {x y : Int} (hx : 0 ≤ x) (hy : 0 ≤ y) (k : Nat) : bx x y / 2 ^ k % 2 = bx (x / 2 ^ k % 2) (y / 2 ^ k % 2) := by
  rw [bit_nat (show 0 ≤ bx x y from Int.natCast_nonneg _), bit_nat hx, bit_nat hy]
  unfold bx
  rw [Int.toNat_natCast, Int.toNat_natCast, Int.toNat_natCast, Nat.xor_div_two_pow, show (2 : Nat) = 2 ^ 1 from rfl, Nat.xor_mod_two_pow]
theorem ba_col {x y : Int} (hx : 0 ≤ x) (hy : 0 ≤ y) (k : Nat) : ba x y / 2 ^ k % 2 = ba (x / 2 ^ k % 2) (y / 2 ^ k % 2) := by
  rw [bit_nat (show 0 ≤ ba x y from Int.natCast_nonneg _), bit_nat hx, bit_nat hy]
  unfold ba
  rw [Int.toNat_natCast, Int.toNat_natCast, Int.toNat_natCast, Nat.and_div_two_pow, show (2 : Nat) = 2 ^ 1 from rfl, Nat.and_mod_two_pow]
theorem step_col {s : Stp} {ws : List Int} (k : Nat) (hw : InW v ws) (h1 : s.1.word ∈ (["xor", "and"] : List Str)) : stepS 1 (colS k ws) s = colS k (stepS v ws s) := by
  obtain ⟨d, b⟩ := s
  have e : ∀ t u : Int, d.new 1 t (colS k ws) = d.new v u ws / 2 ^ k % 2 := fun t u => by
    cases d with
    | add i j =>
      have h1 : ("add" : Str) ∈ (["xor", "and"] : List Str) := h1
      exact absurd h1 (by decide)
    | one i =>
      have h1 : ("one" : Str) ∈ (["xor", "and"] : List Str) := h1
      exact absurd h1 (by decide)
    | xor i j =>
      show bx _ _ = bx _ _ / 2 ^ k % 2
      rw [bx_col (hw.get i).1 (hw.get j).1, colS_getD, colS_getD]
    | and i j l =>
      show bx _ (ba _ _) = bx _ (ba _ _) / 2 ^ k % 2
      rw [bx_col (hw.get i).1 (ba_nn _ _), ba_col (hw.get j).1 (hw.get l).1, colS_getD, colS_getD, colS_getD]
  unfold stepS Dd.act
  rw [e _ (if b then -1 else 1)]
  unfold colS
  rw [List.map_set]
theorem runS_col (k : Nat) : ∀ (f : List Stp) (ws : List Int), (∀ s ∈ f, s.1.word ∈ (["xor", "and"] : List Str)) → InW v ws → runS 1 f (colS k ws) = colS k (runS v f ws)
  | [], _, _, _ => rfl
  | s :: f, ws, ho, hw => by
    show runS 1 f (stepS 1 (colS k ws) s) = colS k (runS v f (stepS v ws s))
    rw [step_col k hw (ho s List.mem_cons_self), runS_col k f (stepS v ws s) (fun t ht => ho t (List.mem_cons_of_mem _ ht)) (hw.act s.1)]
end

section
variable {P : Program} {w : World} {K : PySem.W.Frag} {mg : Str → Option Value} {base : Heap} {k : Nat} {f : Addr} {fd : FuncData} {ps N : List Str} {x qual : Str} {st : Stmt} {T : TabL}
theorem ds_deckT1 {X : Cx} {Ff : Addr → Prop} {D' : AE} {ρ : List (Option Ab)} {e : Expr} {y z : Str} {p pos' pos cpos : Pos} {ns : List Int} (i : Nat) (F : FnG X.prog X.w X.K X.mg X.base CX0 k f fd ps (SpecDeck X.K)) (hr : Room k X.A) (gd : X.A.guards = some []) (hm : X.mg z = some (.ref f)) (hk : PySem.W.keepIn X.K (.ref f) = true)
    (hb : Binds X.K fd ps []) (he : DE X (tRs rs0 T) [] ρ e (Is (aScr X.K ns))) (hl : ns.length ≤ 63) (kk : ∀ D C, D'.nx ⟨tRs (deckRs D C) T, [], ρ.set i (some (.at D))⟩) (hN : X.N.Nodup) (hg : Gl X z := by rfl) (hi : X.N[i]? = some y := by rfl) (hx : L2.Loc X.env.scope y := by first | exact Or.inl rfl | exact Or.inr rfl)
    (hs : swapsWith (.Call (.Name z p) [e] [] cpos) (some (.Name y pos')) pos.line X.env = pure false := by rfl) (hf : X.fn y = true ∨ X.env.scope.names.lookup y = some .local := by first | exact .inl rfl | exact .inr rfl)
    (hdb : (z == ("__debug__" : Str)) = false := by decide) (hst : starEach [e] X.env = (false, eval e X.env) :: starEach [] X.env := by rfl) (hpl : (backTo cpos (starEach [] X.env)).any (·.1) = false := by rfl) :
    DS X Ff ⟨tRs rs0 T, [], ρ⟩ (.Assign [.Name y pos'] (.Call (.Name z p) [e] [] cpos) pos) D' := by
  intro G0 H0
  have ha : DA X (tRs rs0 T) [] ρ [e] (fun as => as = [aScr X.K ns]) := da_cons he da_nil hst
  refine ps_weak (ps_set hN hi hx (pe_callG (E := E0) F hr gd hg hm hk hb .nil pass0 ha hdb hst hpl) hs hf) fun De σ H h => ?_
  obtain ⟨G, s, n, _⟩ := h
  show tDA X.K (tRs rs0 T) [] ρ (fun as => as = [aScr X.K ns]) σ H (fun vs H1 => SpecDeck X.K (vs ++ []) H1 (fun v H2 => De.nx (σ.set i (some v)) H2) E0)
  refine ⟨G, s.loc, s.ok, fun vs as G1 H1 ra rep n1 => ?_⟩
  subst ra
  obtain ⟨v, e1, r⟩ := repAll_one rep
  subst e1
  have s1 := s.nxt n1
  refine ⟨ns, G1, v, rfl, r, hl, s1.ok.small, fun D C G' H' n2' id_ g1 g2 h1 h2 => ?_⟩
  have n2 := n2'.big noTab0 s1.ok
  have s2 := s1.nxt n2
  have back : ∀ b, H1 b = none → H0.1 b = none := fun b hb => by
    cases q : H0.1 b with
    | none => rfl
    | some u =>
      obtain ⟨o', e'⟩ := s1.lie.al b u q
      rw [hb] at e'
      cases e'
  refine n _ _ G' H' (kk D C) ⟨s2.loc.set (a := .at D) rfl i, ⟨s2.ok.gh, fun b f => ?_, ⟨id_, n2.i.2⟩, fun e he => absurd he List.not_mem_nil, fun _ _ _ _ z => by simp at z⟩, s2.lie, fun e he => absurd he List.not_mem_nil, fun b f => ?_⟩
  · rcases f with (rfl | rfl) | f
    · exact g1
    · exact g2
    · exact s2.ok.sep b (.inr f)
  · rcases f with (rfl | rfl) | f
    · exact .inl (back _ h1)
    · exact .inl (back _ h2)
    · exact s2.fr b (.inr f)
end
/-- where words differ below a level -/
def dif (k : Nat) (ws us : List Int) (i : Nat) : Bool := !decide ((ws.getD i 0 - us.getD i 0) % 2 ^ k = 0)
theorem dif_low {k n : Nat} {ws us : List Int} (h1 : ws.length = n) (h2 : us.length = n) : lowL k ws = lowL k us ↔ ∀ i, i < n → dif k ws us i = false := by
  have p := two_pow_pos k
  constructor
  · intro e i hi
    have z := congrArg (fun l : List Int => l.getD i 0) e
    simp only [lowL_getD] at z
    unfold dif
    rw [Bool.not_eq_false', decide_eq_true_eq]
    exact Int.emod_emod_of_dvd _ (Int.dvd_refl _) ▸ (Int.emod_eq_emod_iff_emod_sub_eq_zero.mp z)
  · intro h
    apply List.ext_getElem?
    intro i
    unfold lowL
    rw [List.getElem?_map, List.getElem?_map]
    by_cases hi : i < n
    · have z := h i hi
      unfold dif at z
      rw [Bool.not_eq_false', decide_eq_true_eq] at z
      rw [List.getElem?_eq_getElem (by omega), List.getElem?_eq_getElem (by omega)]
      have e1 : ws.getD i 0 = ws[i]'(by omega) := by rw [List.getD_eq_getElem?_getD, List.getElem?_eq_getElem (by omega)]; rfl
      have e2 : us.getD i 0 = us[i]'(by omega) := by rw [List.getD_eq_getElem?_getD, List.getElem?_eq_getElem (by omega)]; rfl
      rw [e1, e2] at z
      show some (_ % _) = some (_ % _)
      rw [Int.emod_eq_emod_iff_emod_sub_eq_zero.mpr z]
    · rw [List.getElem?_eq_none (by omega), List.getElem?_eq_none (by omega)]

section
variable {X : Cx} {rs : Rs} {M : Mem} {ρ : List (Option Ab)} {a b : Expr} {W U : Int → Prop} {i j : Int} {pos : Pos}
theorem de_divWP (ha : DE X rs M ρ a (IntW W)) (hb : DE X rs M ρ b (Is (aI j))) (hc : ∀ i, W i → CDivW i j) (h : ∀ i, W i → U (i / j)) : DE X rs M ρ (.BinOp a .FloorDiv b pos) (IntW U) :=
  de_op op_fdivW ha hb fun _ _ ⟨_, e1, w1⟩ e2 => by subst e1 e2; exact ar_int (hc _ w1) ⟨_, rfl, h _ w1⟩
theorem de_mulWP (ha : DE X rs M ρ a (IntW W)) (hb : DE X rs M ρ b (Is (aI j))) (hc : ∀ i, W i → CMul i j) (h : ∀ i, W i → U (i * j)) : DE X rs M ρ (.BinOp a .Mult b pos) (IntW U) :=
  de_op op_mul ha hb fun _ _ ⟨_, e1, w1⟩ e2 => by subst e1 e2; exact ar_int (hc _ w1) ⟨_, rfl, h _ w1⟩
end
theorem near_lt {v l : Nat} (h : l ≤ v) {x y : Int} (hy : 0 ≤ y) (hy2 : y < 2 ^ v) : 0 ≤ x % 2 ^ l + y / 2 ^ l * 2 ^ l ∧ x % 2 ^ l + y / 2 ^ l * 2 ^ l < 2 ^ v := by
  have p := two_pow_pos l
  have h1 := Int.emod_nonneg x (Int.ne_of_gt p)
  have h2 := Int.emod_lt_of_pos x p
  have h3 : 0 ≤ y / 2 ^ l := Int.ediv_nonneg hy (Int.le_of_lt p)
  have e : (2 : Int) ^ v = 2 ^ (v - l) * 2 ^ l := by rw [← Int.pow_add, Nat.sub_add_cancel h]
  have h4 : y / 2 ^ l < 2 ^ (v - l) := Int.ediv_lt_of_lt_mul p (by rw [← e]; exact hy2)
  have h5 : (y / 2 ^ l + 1) * 2 ^ l ≤ 2 ^ (v - l) * 2 ^ l := Int.mul_le_mul_of_nonneg_right (by omega) (Int.le_of_lt p)
  have h6 : 0 ≤ y / 2 ^ l * 2 ^ l := Int.mul_nonneg h3 (Int.le_of_lt p)
  rw [Int.add_mul, Int.one_mul, ← e] at h5
  exact ⟨by omega, by omega⟩

section
variable {X : Cx} {rs : Rs} {M : Mem} {ρ : List (Option Ab)} {a b : Expr} {pos : Pos}
theorem dt_notInSL {s : Str} {ss : List Str} (ha : DE X rs M ρ a (Is (aS s))) (hb : DE X rs M ρ b (Is (aL (ss.map .str)))) (hmk : behindInMarks .NotIn b = false := by rfl) : DT X rs M ρ (.Compare a [.NotIn] [b] pos) (fun c => c = !decide (s ∈ ss)) :=
  dt_cmp op_notIn_seq ha hb (fun _ _ e1 e2 => by
    subst e1 e2
    refine fun G H v u Q ok r1 r2 k => ?_
    rw [rep_str r1]
    have r2 : Dp X.K G u (.list (ss.map .str)) := r2
    cases r2 with
    | lst hx rx =>
      rw [dpAll_strs rx] at hx
      refine ⟨_, _, rfl, .inl (.inl (.inl (ok.gh _ _ hx))), rfl, flat_strs ss, ?_⟩
      rw [if_pos rfl, inV_strs]
      exact k _ _ G H ⟨_, rfl, rfl⟩ (Dp.bl _) (Nxt.rfl ok)) hmk
end

section
variable {K : PySem.W.Frag} {mg : Str → Option Value}
theorem gl_kinds {a : Addr} {t1 t2 t3 t4 : Nat} {o1 : Option Addr} {n1 : Nat} {s1 : Array (Option Value)} {x y z u : Str} (e : mg "KINDS" = some (.ref a)) (la : K.lookup a = some ⟨.type "tuple", o1, .seq #[.str x t1, .str y t2, .str z t3, .str u t4] n1, s1⟩) : GlD K mg "KINDS" (.tuple [.str x, .str y, .str z, .str u]) :=
  ⟨a, e, fun G => .tup (xs := [.str x, .str y, .str z, .str u]) (sqT_lit la (by show 4 ≤ sizeLine; decide) (.cons ⟨t1, rfl⟩ (.cons ⟨t2, rfl⟩ (.cons ⟨t3, rfl⟩ (.cons ⟨t4, rfl⟩ .nil))))) (.cons (.str x) (.cons (.str y) (.cons (.str z) (.cons (.str u) .nil))))⟩
theorem gl_steps {t : Nat} {i : Int} (e : mg "MAX_STEPS" = some (.int i t)) : GlI mg "MAX_STEPS" i := ⟨t, e⟩
end
end HW
set_option maxHeartbeats 1000000
namespace K08
open PySem PySem.Spec PyProof.Rows L2 RZ HW
def topS (i : Nat) : Stmt := PySem.Challenge.pw_homewords_k08_whole_states_alike_below_l.main.body.getD i (.Pass ⟨0, 0, 0, 0⟩)
abbrev s_done : Stmt := topS 2
abbrev N_done : List Str := ["w", "state", "deed"]
theorem sc_done : FnScope N_done ["w", "state", "deed"] (defScope s_done) := ⟨rfl, rfl, rfl, by decide +kernel, rfl, by decide +kernel, by decide +kernel⟩
abbrev s_undone : Stmt := topS 3
abbrev N_undone : List Str := ["w", "state", "deed"]
theorem sc_undone : FnScope N_undone ["w", "state", "deed"] (defScope s_undone) := ⟨rfl, rfl, rfl, by decide +kernel, rfl, by decide +kernel, by decide +kernel⟩
abbrev s_changed : Stmt := topS 4
abbrev N_changed : List Str := ["w", "state", "deed", "sign", "kind", "word"]
theorem sc_changed : FnScope N_changed ["w", "state", "deed", "sign"] (defScope s_changed) := ⟨rfl, rfl, rfl, by decide +kernel, rfl, by decide +kernel, by decide +kernel⟩
abbrev s_withWord : Stmt := topS 5
abbrev N_withWord : List Str := ["state", "place", "word"]
theorem sc_withWord : FnScope N_withWord ["state", "place", "word"] (defScope s_withWord) := ⟨rfl, rfl, rfl, by decide +kernel, rfl, by decide +kernel, by decide +kernel⟩
abbrev s_folded : Stmt := topS 10
abbrev N_folded : List Str := ["program", "reading", "used", "found", "place", "term"]
theorem sc_folded : FnScope N_folded ["program", "reading"] (defScope s_folded) := ⟨rfl, rfl, rfl, by decide +kernel, rfl, by decide +kernel, by decide +kernel⟩
abbrev s_usedPlaces : Stmt := topS 11
abbrev N_usedPlaces : List Str := ["program", "used", "place", "part"]
theorem sc_usedPlaces : FnScope N_usedPlaces ["program"] (defScope s_usedPlaces) := ⟨rfl, rfl, rfl, by decide +kernel, rfl, by decide +kernel, by decide +kernel⟩
abbrev s_partsIn : Stmt := topS 12
abbrev N_partsIn : List Str := ["term", "kind", "inner", "part"]
theorem sc_partsIn : FnScope N_partsIn ["term"] (defScope s_partsIn) := ⟨rfl, rfl, rfl, by decide +kernel, rfl, by decide +kernel, by decide +kernel⟩
abbrev s_ofTerm : Stmt := topS 13
abbrev N_ofTerm : List Str := ["term", "found", "reading", "kind", "inner"]
theorem sc_ofTerm : FnScope N_ofTerm ["term", "found", "reading"] (defScope s_ofTerm) := ⟨rfl, rfl, rfl, by decide +kernel, rfl, by decide +kernel, by decide +kernel⟩
abbrev s_isIdle : Stmt := topS 14
abbrev N_isIdle : List Str := ["term"]
theorem sc_isIdle : FnScope N_isIdle ["term"] (defScope s_isIdle) := ⟨rfl, rfl, rfl, by decide +kernel, rfl, by decide +kernel, by decide +kernel⟩
abbrev s_tallyUpTo : Stmt := topS 18
abbrev N_tallyUpTo : List Str := ["program", "kinds", "limit"]
theorem sc_tallyUpTo : FnScope N_tallyUpTo ["program", "kinds", "limit"] (defScope s_tallyUpTo) := ⟨rfl, rfl, rfl, by decide +kernel, rfl, by decide +kernel, by decide +kernel⟩
abbrev s_run : Stmt := topS 21
abbrev N_run : List Str := ["n", "w", "program", "state", "steps", "_", "deed", "turned"]
theorem sc_run : FnScope N_run ["n", "w", "program", "state"] (defScope s_run) := ⟨rfl, rfl, rfl, by decide +kernel, rfl, by decide +kernel, by decide +kernel⟩
abbrev s_lawDeck : Stmt := topS 23
abbrev N_lawDeck : List Str := ["script", "cells", "mixed", "cell"]
theorem sc_lawDeck : FnScope N_lawDeck ["script"] (defScope s_lawDeck) := ⟨rfl, rfl, rfl, by decide +kernel, rfl, by decide +kernel, by decide +kernel⟩
abbrev s_lawDraw : Stmt := topS 24
abbrev N_lawDraw : List Str := ["deck", "many", "cell", "found", "turn"]
theorem sc_lawDraw : FnScope N_lawDraw ["deck", "many"] (defScope s_lawDraw) := ⟨rfl, rfl, rfl, by decide +kernel, rfl, by decide +kernel, by decide +kernel⟩
abbrev s_lawPick : Stmt := topS 25
abbrev N_lawPick : List Str := ["deck", "row"]
theorem sc_lawPick : FnScope N_lawPick ["deck", "row"] (defScope s_lawPick) := ⟨rfl, rfl, rfl, by decide +kernel, rfl, by decide +kernel, by decide +kernel⟩
abbrev s_lawMixed : Stmt := topS 26
abbrev N_lawMixed : List Str := ["deck", "row", "left", "found"]
theorem sc_lawMixed : FnScope N_lawMixed ["deck", "row"] (defScope s_lawMixed) := ⟨rfl, rfl, rfl, by decide +kernel, rfl, by decide +kernel, by decide +kernel⟩
abbrev s_lawWord : Stmt := topS 27
abbrev N_lawWord : List Str := ["deck", "w", "way", "found", "turn"]
theorem sc_lawWord : FnScope N_lawWord ["deck", "w"] (defScope s_lawWord) := ⟨rfl, rfl, rfl, by decide +kernel, rfl, by decide +kernel, by decide +kernel⟩
abbrev s_lawState : Stmt := topS 28
abbrev N_lawState : List Str := ["deck", "n", "w", "spot"]
theorem sc_lawState : FnScope N_lawState ["deck", "n", "w"] (defScope s_lawState) := ⟨rfl, rfl, rfl, by decide +kernel, rfl, by decide +kernel, by decide +kernel⟩
abbrev s_lawDeed : Stmt := topS 29
abbrev N_lawDeed : List Str := ["deck", "n", "words", "word", "places"]
theorem sc_lawDeed : FnScope N_lawDeed ["deck", "n", "words"] (defScope s_lawDeed) := ⟨rfl, rfl, rfl, by decide +kernel, rfl, by decide +kernel, by decide +kernel⟩
abbrev s_lawFlat : Stmt := topS 30
abbrev N_lawFlat : List Str := ["term", "parts", "found", "own", "inner", "deed", "is_back"]
theorem sc_lawFlat : FnScope N_lawFlat ["term", "parts"] (defScope s_lawFlat) := ⟨rfl, rfl, rfl, by decide +kernel, rfl, by decide +kernel, by decide +kernel⟩
abbrev s_lawTerm : Stmt := topS 31
abbrev N_lawTerm : List Str := ["deck", "n", "words", "place", "deep", "way", "many", "turn", "inner"]
theorem sc_lawTerm : FnScope N_lawTerm ["deck", "n", "words", "place", "deep"] (defScope s_lawTerm) := ⟨rfl, rfl, rfl, by decide +kernel, rfl, by decide +kernel, by decide +kernel⟩
abbrev s_lawProgram : Stmt := topS 32
abbrev N_lawProgram : List Str := ["deck", "n", "words", "many", "most", "found", "parts", "place", "term", "flat", "own", "turn", "part", "whole"]
theorem sc_lawProgram : FnScope N_lawProgram ["deck", "n", "words", "many", "most"] (defScope s_lawProgram) := ⟨rfl, rfl, rfl, by decide +kernel, rfl, by decide +kernel, by decide +kernel⟩
abbrev s_lawShared : Stmt := topS 33
abbrev N_lawShared : List Str := ["w", "one", "other", "found", "x", "y"]
theorem sc_lawShared : FnScope N_lawShared ["w", "one", "other"] (defScope s_lawShared) := ⟨rfl, rfl, rfl, by decide +kernel, rfl, by decide +kernel, by decide +kernel⟩
abbrev s_lawNear : Stmt := topS 34
abbrev N_lawNear : List Str := ["deck", "state", "w", "level", "own", "word"]
theorem sc_lawNear : FnScope N_lawNear ["deck", "state", "w"] (defScope s_lawNear) := ⟨rfl, rfl, rfl, by decide +kernel, rfl, by decide +kernel, by decide +kernel⟩
abbrev s_lawColumn : Stmt := topS 35
abbrev N_lawColumn : List Str := ["state", "level", "word"]
theorem sc_lawColumn : FnScope N_lawColumn ["state", "level"] (defScope s_lawColumn) := ⟨rfl, rfl, rfl, by decide +kernel, rfl, by decide +kernel, by decide +kernel⟩
abbrev s_law : Stmt := topS 36
abbrev N_law : List Str := ["script", "deck", "turn", "n", "w", "words", "program", "state", "other", "first", "second", "twice", "word", "level", "own"]
theorem sc_law : FnScope N_law ["script"] (defScope s_law) := ⟨rfl, rfl, rfl, by decide +kernel, rfl, by decide +kernel, by decide +kernel⟩
abbrev s_tallyInit : Stmt := inClass (topS 17) 0
abbrev N_tallyInit : List Str := ["self", "kinds", "kept"]
theorem sc_tallyInit : FnScope N_tallyInit ["self", "kinds", "kept"] (defScope s_tallyInit) := ⟨rfl, rfl, rfl, by decide +kernel, rfl, by decide +kernel, by decide +kernel⟩
abbrev s_tallyOfDeed : Stmt := inClass (topS 17) 1
abbrev N_tallyOfDeed : List Str := ["self", "deed"]
theorem sc_tallyOfDeed : FnScope N_tallyOfDeed ["self", "deed"] (defScope s_tallyOfDeed) := ⟨rfl, rfl, rfl, by decide +kernel, rfl, by decide +kernel, by decide +kernel⟩
abbrev s_tallyOfRow : Stmt := inClass (topS 17) 2
abbrev N_tallyOfRow : List Str := ["self", "numbers"]
theorem sc_tallyOfRow : FnScope N_tallyOfRow ["self", "numbers"] (defScope s_tallyOfRow) := ⟨rfl, rfl, rfl, by decide +kernel, rfl, by decide +kernel, by decide +kernel⟩
abbrev s_tallyOfBack : Stmt := inClass (topS 17) 3
abbrev N_tallyOfBack : List Str := ["self", "number"]
theorem sc_tallyOfBack : FnScope N_tallyOfBack ["self", "number"] (defScope s_tallyOfBack) := ⟨rfl, rfl, rfl, by decide +kernel, rfl, by decide +kernel, by decide +kernel⟩
abbrev s_tallyOfTimes : Stmt := inClass (topS 17) 4
abbrev N_tallyOfTimes : List Str := ["self", "number", "times"]
theorem sc_tallyOfTimes : FnScope N_tallyOfTimes ["self", "number", "times"] (defScope s_tallyOfTimes) := ⟨rfl, rfl, rfl, by decide +kernel, rfl, by decide +kernel, by decide +kernel⟩
abbrev s_stepsOfDeed : Stmt := inClass (topS 20) 0
abbrev N_stepsOfDeed : List Str := ["self", "deed"]
theorem sc_stepsOfDeed : FnScope N_stepsOfDeed ["self", "deed"] (defScope s_stepsOfDeed) := ⟨rfl, rfl, rfl, by decide +kernel, rfl, by decide +kernel, by decide +kernel⟩
abbrev s_stepsOfRow : Stmt := inClass (topS 20) 1
abbrev N_stepsOfRow : List Str := ["self", "ways", "forth", "way", "step", "back"]
theorem sc_stepsOfRow : FnScope N_stepsOfRow ["self", "ways"] (defScope s_stepsOfRow) := ⟨rfl, rfl, rfl, by decide +kernel, rfl, by decide +kernel, by decide +kernel⟩
abbrev s_stepsOfBack : Stmt := inClass (topS 20) 2
abbrev N_stepsOfBack : List Str := ["self", "way", "forth", "back"]
theorem sc_stepsOfBack : FnScope N_stepsOfBack ["self", "way"] (defScope s_stepsOfBack) := ⟨rfl, rfl, rfl, by decide +kernel, rfl, by decide +kernel, by decide +kernel⟩
abbrev s_stepsOfTimes : Stmt := inClass (topS 20) 3
abbrev N_stepsOfTimes : List Str := ["self", "way", "times", "forth", "back"]
theorem sc_stepsOfTimes : FnScope N_stepsOfTimes ["self", "way", "times"] (defScope s_stepsOfTimes) := ⟨rfl, rfl, rfl, by decide +kernel, rfl, by decide +kernel, by decide +kernel⟩
/-- what the top leaves -/
structure Txt (K : PySem.W.Frag) (mg : Str → Option Value) : Type where
  done : Df K mg "done" s_done
  undone : Df K mg "undone" s_undone
  changed : Df K mg "_changed" s_changed
  withWord : Df K mg "_with_word" s_withWord
  folded : Df K mg "folded" s_folded
  usedPlaces : Df K mg "used_places" s_usedPlaces
  partsIn : Df K mg "_parts_in" s_partsIn
  ofTerm : Df K mg "_of_term" s_ofTerm
  isIdle : Df K mg "_is_idle" s_isIdle
  tallyUpTo : Df K mg "tally_up_to" s_tallyUpTo
  run : Df K mg "run" s_run
  lawDeck : Df K mg "_law_deck" s_lawDeck
  lawDraw : Df K mg "_law_draw" s_lawDraw
  lawPick : Df K mg "_law_pick" s_lawPick
  lawMixed : Df K mg "_law_mixed" s_lawMixed
  lawWord : Df K mg "_law_word" s_lawWord
  lawState : Df K mg "_law_state" s_lawState
  lawDeed : Df K mg "_law_deed" s_lawDeed
  lawFlat : Df K mg "_law_flat" s_lawFlat
  lawTerm : Df K mg "_law_term" s_lawTerm
  lawProgram : Df K mg "_law_program" s_lawProgram
  lawShared : Df K mg "_law_shared" s_lawShared
  lawNear : Df K mg "_law_near" s_lawNear
  lawColumn : Df K mg "_law_column" s_lawColumn
  law : Df K mg "law" s_law
  c_tally : Cdf K mg "Tally"
  tallyInit : Idf K c_tally.C "Tally.__init__" s_tallyInit
  tallyOfDeed : Mdf K c_tally.C "of_deed" "Tally.of_deed" s_tallyOfDeed
  tallyOfRow : Mdf K c_tally.C "of_row" "Tally.of_row" s_tallyOfRow
  tallyOfBack : Mdf K c_tally.C "of_back" "Tally.of_back" s_tallyOfBack
  tallyOfTimes : Mdf K c_tally.C "of_times" "Tally.of_times" s_tallyOfTimes
  na_tally_kinds : NoAttr K c_tally.C "kinds"
  na_tally_kept : NoAttr K c_tally.C "kept"
  c_steps : Cdf K mg "Steps"
  c0_steps : Mk0 K c_steps.C
  stepsOfDeed : Mdf K c_steps.C "of_deed" "Steps.of_deed" s_stepsOfDeed
  stepsOfRow : Mdf K c_steps.C "of_row" "Steps.of_row" s_stepsOfRow
  stepsOfBack : Mdf K c_steps.C "of_back" "Steps.of_back" s_stepsOfBack
  stepsOfTimes : Mdf K c_steps.C "of_times" "Steps.of_times" s_stepsOfTimes
  n_ValueError : mg "ValueError" = none
  n_abs : mg "abs" = none
  n_enumerate : mg "enumerate" = none
  n_int : mg "int" = none
  n_len : mg "len" = none
  n_list : mg "list" = none
  n_max : mg "max" = none
  n_min : mg "min" = none
  n_range : mg "range" = none
  n_repr : mg "repr" = none
  n_reversed : mg "reversed" = none
  n_sum : mg "sum" = none
  n_tuple : mg "tuple" = none
  n_zip : mg "zip" = none
section
variable {P : Program} {w : World} {K : PySem.W.Frag} {mg : Str → Option Value} {base : Heap}

/-! ### the law's own readers -/
theorem b_lawDraw (T : Txt K mg) : Binds K T.lawDraw.fd ["deck", "many"] [] := T.lawDraw.F.binds fun _ _ _ _ _ _ us hl => match us, hl with | [_, _], _ => rfl
def S_lawDraw (rs : Rs) (M : Mem) (as : List Ab) (R : Ab → Prop) : Prop := ∃ (D C : Addr) (many : Int), rs = deckRs D C ∧ as = [.at D, aI many] ∧ 1 ≤ many ∧ many < 2 ^ 1000 ∧ R = Below many
theorem ok_lawDraw (T : Txt K mg) : FnG P w K mg base CX0 1 T.lawDraw.f T.lawDraw.fd ["deck", "many"] (Spec K S_lawDraw) := by
  refine fn_goF T.lawDraw.F sc_lawDraw (fun rs M as R ⟨_, _, _, _, h, _⟩ => by rw [h]; rfl) fun cdv A outer s H0 E room gd rs M as R t ro G H vs reps ok => ?_
  obtain ⟨D, C, many, rfl, rfl, h1, h2, rfl⟩ := t
  have nd := sc_lawDraw.nd
  obtain ⟨cells, m, c, ok1, hl⟩ := deck_open ok
  refine ⟨rs0, deckM D C cells m c, ok1, fun e he _ => ?_, fun b h => h.elim, ?_⟩
  · rcases List.mem_cons.mp he with rfl | he
    · exact .inl rfl
    · exact .inr (List.mem_singleton.mp he ▸ rfl)
  have fin : ∀ {cells : List Int} {m c : Int} {a : Ab}, cells.length ≤ 63 → Below many a → Below many a ∧ ∀ G H, Ok K rs0 (deckM D C cells m c) G H → (deckRs D C).I H := fun hl ha => ⟨ha, fun G H o => deck_close o hl⟩
  -- the first cell's next digit
  refine ds_cons (ds_if (T := fun b => b = true → cells ≠ []) (PW.pt (dw_and (T := fun b => b = true → cells ≠ []) (dt_imp (dt_neD room.units (de_ix (de_var 0 rfl) de_int (seqs_at List.mem_cons_self) rfl) (de_lst (ds := []) da_nil) (view_at (List.mem_cons_of_mem _ List.mem_cons_self)) (view_d _) (shaped_ints cells) rfl) fun b hb e => ?_)
    (fun h => dw_and1 (dt_gt (de_var 1 rfl) de_int)) (fun h b _ _ => h rfl) (fun _ h => nomatch h))) (fun h => ?_) fun _ => ds_nil ?_)
  · rintro rfl
    subst e
    rw [eqv_nil] at hb
    cases hb
  · match cells, hl, h rfl with
    | x :: r, hl, _ =>
      refine ds_cons (ds_setX (R := fun S' a => S' = ⟨rs0, deckM D C r m c, startA N_lawDraw [.at D, aI many]⟩ ∧ a = aI x) 2 (dx_list (k := 1) (xs := (((x :: r).map .int).map .d)) PySem.F.slot_list_pop PySem.F.type_list_pop mt_popAt (de_ix (de_var 0 rfl) de_int (seqs_at List.mem_cons_self) rfl) rfl
        (dax_cons (dx_of de_int fun a ha => dax_nil ?_))) (fun S' a ⟨h1, h2⟩ => ?_) nd)
      · subst ha
        exact lm_popAt (k := 1) (j := 0) rfl (by decide) (by decide) (ixN_seq (ixN_nat (by simp))).1 rfl ⟨rfl, rfl⟩
      subst h1 h2
      refine ds_cut (fun S' => ∃ cells' : List Int, cells'.length ≤ 63 ∧ S' = ⟨rs0, deckM D C cells' m c, [some (.at D), some (aI many), some (aI x), none, none]⟩)
        (ds_if (dt_ge (de_var 2 rfl) (de_var 1 rfl)) (fun _ => ds_one (ds_exprX (R := fun S' a => S' = ⟨rs0, deckM D C (x / many :: r) m c, [some (.at D), some (aI many), some (aI x), none, none]⟩) (dx_list (k := 1) (xs := ((r.map .int).map .d)) PySem.F.slot_list_insert PySem.F.type_list_insert mt_insertI (de_ix (de_var 0 rfl) de_int (seqs_at List.mem_cons_self) rfl) rfl
        (dax_cons (dx_of de_int fun a ha => dax_cons (dx_of (de_div (de_var 2 rfl) (de_var 1 rfl) ⟨by omega, Nat.lt_trans (log2_small (k := 1000) (by omega) (by decide) h2) (by decide)⟩) fun b hb => dax_nil ?_)))) fun S' a e => ?_)) fun _ => ds_nil ⟨r, by simp at hl; omega, rfl⟩) fun S' ⟨cells', hl', e⟩ => ?_
      · subst ha hb
        exact lm_insert (k := 1) rfl (by simp at hl ⊢; omega) (by decide) (by decide) rfl
      · exact ⟨x / many :: r, by simpa using hl, e⟩
      · subst e
        exact ds_one (ds_ret (de_mod (de_intOf T.n_int (de_var 2 rfl)) (de_var 1 rfl) (by omega)) fun a ha => fin hl' ⟨_, ha, Int.emod_nonneg _ (by omega), Int.emod_lt_of_pos _ (by omega)⟩)
  -- the mixed number
  refine ds_cons (ds_setItem (k := 0) (j := 2) (R := Is (aI (c + 1))) (de_add (de_ix (de_var 0 rfl) de_int (seqs_at List.mem_cons_self) rfl) de_int) (de_var 0 rfl) de_int rfl rfl (fun a ha => ?_) (pg_sub (de_var 0 rfl) de_int set_list))
  subst ha
  refine ds_cons (ds_set 3 (R := fun a => ∃ f : Int, a = aI f ∧ 0 ≤ f ∧ f < 4294967296) (de_imp (de_mod (de_intOf T.n_int (de_add (de_ix (de_var 0 rfl) de_int (seqs_at List.mem_cons_self) rfl) (de_mul de_int (de_ix (de_var 0 rfl) de_int (seqs_at List.mem_cons_self) rfl) (.inl ⟨by decide, by decide⟩)))) de_int (by decide)) fun a ha => ⟨_, ha, Int.emod_nonneg _ (by decide), Int.lt_trans (Int.emod_lt_of_pos _ (by decide)) (by decide)⟩) (fun a ha => ?_) nd)
  obtain ⟨f, rfl, f0, f1⟩ := ha
  refine ds_cons (ds_for (fun n item i S => S.rs = rs0 ∧ S.M = deckM D C cells m (c + 1) ∧ ∃ f : Int, ∃ y2 y4, S.ρ = [some (.at D), some (aI many), y2, some (aI f), y4] ∧ 0 ≤ f ∧ f < 4294967296) (RI := fun n item => item = AtR 0) (di_range1 rfl T.n_range (da_cons de_int da_nil) fun as h => ⟨2, h, by decide, by decide, rfl⟩)
    (dg_name 4 nd) (fun n item _ => ⟨rfl, rfl, f, _, _, rfl, f0, f1⟩) (fun n item i S a hi hlt ⟨e1, e2, f, y2, y4, e3, f0, f1⟩ ia => ?_) (fun n item S hi ⟨e1, e2, f, y2, y4, e3, f0, f1⟩ => ?_) PassesOwn.never rfl)
  · subst hi
    subst ia
    obtain ⟨rs', M', ρ'⟩ := S
    cases e1
    cases e2
    cases e3
    refine ⟨_, rfl, ds_one (ds_set 3 (R := fun a => ∃ f : Int, a = aI f ∧ 0 ≤ f ∧ f < 4294967296) (de_imp (de_mod (de_intOf T.n_int (de_add (de_add (de_add (de_mul (de_var 3 rfl) (de_var 3 rfl) (.inl ⟨by omega, by omega⟩)) (de_mul de_int (de_ix (de_var 0 rfl) de_int (seqs_at List.mem_cons_self) rfl) (.inl ⟨by decide, by decide⟩))) de_int) (de_var 4 rfl))) de_int (by decide))
      fun a ha => ⟨_, ha, Int.emod_nonneg _ (by decide), Int.lt_trans (Int.emod_lt_of_pos _ (by decide)) (by decide)⟩) (fun a ha => ?_) nd)⟩
    obtain ⟨g, rfl, g0, g1⟩ := ha
    exact ⟨rfl, rfl, g, _, _, rfl, g0, g1⟩
  · obtain ⟨rs', M', ρ'⟩ := S
    cases e1
    cases e2
    cases e3
    exact ds_one (ds_ret (de_mod (de_intOf T.n_int (de_div (de_var 3 rfl) de_int ⟨by decide, by decide⟩)) (de_var 1 rfl) (by omega)) fun a ha => fin hl ⟨_, ha, Int.emod_nonneg _ (by omega), Int.emod_lt_of_pos _ (by omega)⟩)


theorem ok_lawDeck (T : Txt K mg) : FnG P w K mg base CX0 1 T.lawDeck.f T.lawDeck.fd ["script"] (SpecDeck K) := by
  refine fn_deck T.lawDeck.F sc_lawDeck rfl fun cdv A outer s H0 E room gd ns hl => ?_
  have nd := sc_lawDeck.nd
  refine ds_cons (ds_par (i := 1) (j := 2) rfl nd (dax_cons (dx_of (R := fun a => ∃ cs : List Int, a = aL (cs.map .int) ∧ cs.length ≤ 63) (de_imp (de_lc1 (N := N_lawDeck) (sc := defScope s_lawDeck) 3 (n0 := (cutA ns none (some 63)).length) (item0 := AtD ((cutA ns none (some 63)).map .int))
    (f := fun i => .int (deckCell ((cutA ns none (some 63)).getD i 0)))
    (di_list (de_of_dn (R := Is (aL ((cutA ns none (some 63)).map .int))) (dn_slL (de_var 0 rfl) (seqL_scr ns) do_none (do_some de_int)) fun as h => ⟨(cutA ns none (some 63)).map .int, by rw [h, cutA_map, cutA_map], rfl⟩) fun y h => ⟨_, h, by rw [List.length_map], rfl⟩) nd (by decide +kernel) (by have := cutA_length ns none (some 63); omega)
    (fun i a hi ia => fun s H C cl fp => ?_) (fun s H C cl fp => dg_name 3 nd)) fun a ha => ?_) fun a ha => dax_cons (dx_of (de_add de_int (de_len T.n_len (de_var 0 rfl) (seqs_scr ns))) fun b hb => dax_nil ⟨a, b, rfl, ?_⟩))))
  · obtain ⟨x, hx, rfl⟩ := atD_ints ia
    rw [getD_of hx]
    exact de_add (de_mul de_int (de_abs T.n_abs (de_var 3 rfl)) (.inl ⟨by decide, by decide⟩)) (de_intOfB T.n_int (de_lt (de_var 3 rfl) de_int))
  · refine ⟨(List.range (cutA ns none (some 63)).length).map fun i => deckCell ((cutA ns none (some 63)).getD i 0), ?_, ?_⟩
    · rw [ha, List.map_map]
      rfl
    · rw [List.length_map, List.length_range]
      exact Nat.le_trans (cutA_length ns none (some 63)) hl
  obtain ⟨cs, rfl, hc⟩ := ha
  subst hb
  refine ds_cons (ds_for (fun n item i S => S.rs = rs0 ∧ S.M = [] ∧ ∃ m : Int, ∃ y3, S.ρ = [some (aScr K ns), some (aL (cs.map .int)), some (aI m), y3]) (RI := fun n item => item = AtD (cs.map .int)) (di_list (de_var 1 rfl) fun y h => ⟨_, h, rfl⟩) (dg_name 3 nd) (fun n item _ => ⟨rfl, rfl, _, _, rfl⟩)
    (fun n item i S a hi hlt ⟨e1, e2, m, y3, e3⟩ ia => ?_) (fun n item S hi ⟨e1, e2, m, y3, e3⟩ => ?_) PassesOwn.never rfl)
  · subst hi
    obtain ⟨x, hx, rfl⟩ := atD_ints ia
    obtain ⟨rs', M', ρ'⟩ := S
    cases e1
    cases e2
    cases e3
    exact ⟨_, rfl, ds_one (ds_set 2 (de_mod (de_intOf T.n_int (de_add (de_add (de_mul (de_var 2 rfl) de_int (.inr ⟨by decide, by decide⟩)) (de_var 3 rfl)) de_int)) de_int (by decide)) (fun a ha => by subst ha; exact ⟨rfl, rfl, _, _, rfl⟩) nd)⟩
  · obtain ⟨rs', M', ρ'⟩ := S
    cases e1
    cases e2
    cases e3
    refine ds_one (ds_retX (dx_lst (dax_cons (dx_new (T := fun as => ∃ ds : List Int, as = (ds.map .int).map .d ∧ ds.length ≤ 63) (dn_lc (own := [("cell", 3)]) (fun n item i acc => ∃ ds : List Int, acc = (ds.map .int).map .d ∧ ds.length ≤ i) (RI := fun n item => n = cs.length ∧ item = AtD (cs.map .int)) (di_list (de_var 1 rfl) fun y h => ⟨_, h, by rw [List.length_map], rfl⟩)
      rfl nd (blkOk_by (N := N_lawDeck) (sc := defScope s_lawDeck) (by decide +kernel)) (fun s H C cl fp => dg_name 3 nd) (fun _ _ _ => ⟨[], rfl, Nat.le_refl _⟩) (fun n item i acc a ⟨h1, h2⟩ hlt ha ia => ?_) (fun n item acc ⟨h1, h2⟩ ha => ?_) (fun i h => h)) fun q as has => dax_cons (dx_of (de_var 2 rfl) fun b hb => dax_cons (dx_of de_int fun c hc' => dax_nil ⟨by show 3 ≤ 100000; decide, fun q2 => ?_⟩)))))
      (R := fun S' a => S'.rs = rs0 ∧ ∃ D C cells m c, S'.M = deckM D C cells m c ∧ a = .at D ∧ cells.length ≤ 63) fun S' a h => h)
    · subst h1 h2
      obtain ⟨x, hx, rfl⟩ := atD_ints ia
      obtain ⟨ds, rfl, hd⟩ := ha
      refine ⟨by rw [List.length_map, List.length_map]; omega, _, fun _ => True, rfl, fun s H C cl fp => dts_one (dt_imp (dt_gt (de_var 3 rfl) (de_pow de_int de_int ⟨by decide, by decide, by decide⟩)) fun _ _ => trivial), fun _ => fun s H C cl fp => de_imp (de_var 3 rfl) fun z hz => ⟨ds ++ [x], ?_, ?_⟩, fun _ => ⟨ds, rfl, by omega⟩⟩
      · rw [hz, List.map_append, List.map_append]
        rfl
      · rw [List.length_append, List.length_singleton]
        omega
    · obtain ⟨ds, e, hd⟩ := ha
      exact ⟨ds, e, by omega⟩
    · obtain ⟨ds, rfl, hd⟩ := has
      subst hb hc'
      exact ⟨rfl, q2, q, ds, _, _, rfl, rfl, hd⟩
theorem b_lawPick (T : Txt K mg) : Binds K T.lawPick.fd ["deck", "row"] [] := T.lawPick.F.binds fun _ _ _ _ _ _ us hl => match us, hl with | [_, _], _ => rfl
def S_lawPick (rs : Rs) (M : Mem) (as : List Ab) (R : Ab → Prop) : Prop := ∃ (D C : Addr) (ds : List PyData), rs = deckRs D C ∧ as = [.at D, aL ds] ∧ ds ≠ [] ∧ ds.length ≤ 100000 ∧ ∀ d ∈ ds, R (.d d)
theorem ok_lawPick (T : Txt K mg) : FnG P w K mg base CX0 2 T.lawPick.f T.lawPick.fd ["deck", "row"] (Spec K S_lawPick) := by
  refine fn_go T.lawPick.F sc_lawPick (fun rs M as R ⟨_, _, _, _, h, _⟩ => by rw [h]; rfl) fun cdv A outer s H0 E room gd rs M as R t ro => ?_
  obtain ⟨D, C, ds, rfl, rfl, hd, hl, hR⟩ := t
  have hp : 0 < ds.length := List.length_pos_iff.mpr hd
  refine ds_one (ds_ret (R := R) (de_ixR (de_var 1 rfl) (de_call (E := E0) (R := Below ds.length) (ok_lawDraw T) room gd rfl T.lawDraw.g T.lawDraw.F.kp (b_lawDraw T) pass0 (da_cons (de_var 0 rfl) (da_cons (de_len T.n_len (de_var 1 rfl) (seqs_l _)) da_nil)) fun as h =>
    ⟨D, C, ds.length, rfl, by rw [h, List.length_map], by omega, Int.lt_of_le_of_lt (b := 100000) (by omega) (by decide), rfl⟩) (seqs_l _) fun z ⟨r, hz, r0, r1⟩ => ?_) fun a ha => ⟨rfl, ha⟩)
  obtain ⟨k, rfl⟩ := Int.eq_ofNat_of_zero_le r0
  have hk : k < ds.length := by omega
  exact ⟨k, .d ds[k], hz, atI_nat (by rw [List.getElem?_map, List.getElem?_eq_getElem hk]; rfl), hR _ (List.getElem_mem hk)⟩
theorem b_lawWord (T : Txt K mg) : Binds K T.lawWord.fd ["deck", "w"] [] := T.lawWord.F.binds fun _ _ _ _ _ _ us hl => match us, hl with | [_, _], _ => rfl
def S_lawWord (rs : Rs) (M : Mem) (as : List Ab) (R : Ab → Prop) : Prop := ∃ (D C : Addr) (k : Nat), rs = deckRs D C ∧ as = [.at D, aI k] ∧ 1 ≤ k ∧ k ≤ 64 ∧ R = Below (2 ^ k)
theorem ok_lawWord (T : Txt K mg) : FnG P w K mg base CX0 2 T.lawWord.f T.lawWord.fd ["deck", "w"] (Spec K S_lawWord) := by
  refine fn_go T.lawWord.F sc_lawWord (fun rs M as R ⟨_, _, _, _, h, _⟩ => by rw [h]; rfl) fun cdv A outer s H0 E room gd rs M as R t ro => ?_
  obtain ⟨D, C, k, rfl, rfl, h1, h2, rfl⟩ := t
  have nd := sc_lawWord.nd
  have pw : (0 : Int) < 1 * 2 ^ ((k : Int).toNat) := by
    rw [Int.one_mul]
    exact two_pow_pos _
  have ew : (1 : Int) * 2 ^ ((k : Int).toNat) = 2 ^ k := Int.one_mul _
  have sh : CPow 1 (k : Int) := ⟨Int.natCast_nonneg k, by omega, by decide⟩
  refine ds_cons (ds_set 2 (de_call (E := E0) (R := Below 9) (ok_lawDraw T) room gd rfl T.lawDraw.g T.lawDraw.F.kp (b_lawDraw T) pass0 (da_cons (de_var 0 rfl) (da_cons de_int da_nil)) fun as h => ⟨D, C, 9, rfl, h, by decide, by decide, rfl⟩) (fun a ha => ?_) nd)
  obtain ⟨way, rfl, w0, w1⟩ := ha
  refine ds_cons (ds_if (dt_lt (de_var 2 rfl) de_int) (fun hw => ?_) fun hw => ds_nil ?_)
  · have hw : way < 4 := of_decide_eq_true hw.symm
    have at_ : ∃ v : Int, atI ([PyData.int 0, .int 1, .int (1 * 2 ^ ((k : Int).toNat) - 1), .int (1 * 2 ^ (((k : Int) - 1).toNat))].map Ab.d) way = some (aI v) := by
      have : way = 0 ∨ way = 1 ∨ way = 2 ∨ way = 3 := by omega
      rcases this with rfl | rfl | rfl | rfl
      · exact ⟨_, rfl⟩
      · exact ⟨_, rfl⟩
      · exact ⟨_, rfl⟩
      · exact ⟨_, rfl⟩
    obtain ⟨v, hv⟩ := at_
    refine ds_one (ds_ret (de_mod (de_ix (de_lst (ds := [PyData.int 0, .int 1, .int (1 * 2 ^ ((k : Int).toNat) - 1), .int (1 * 2 ^ (((k : Int) - 1).toNat))]) (da_cons de_int (da_cons de_int (da_cons (de_sub (de_shl de_int (de_var 1 rfl) sh) de_int) (da_cons (de_shl de_int (de_sub (de_var 1 rfl) de_int) ⟨by omega, by omega, by decide⟩) da_nil)))) rfl (by show 4 ≤ 100000; decide)) (de_var 2 rfl) (seqs_l _) hv)
      (de_shl de_int (de_var 1 rfl) sh) pw) fun a ha => ⟨rfl, _, ha, Int.emod_nonneg _ (Int.ne_of_gt pw), by rw [← ew]; exact Int.emod_lt_of_pos _ pw⟩)
  refine ds_cons (ds_if (dt_eqI (de_var 2 rfl) de_int) (fun hw => ?_) fun hw => ds_nil ?_)
  · refine ds_one (ds_ret (R := Below (2 ^ k)) (de_op op_shl (Ra := Is (aI 1)) (Rb := Below k) de_int (de_call (E := E0) (R := Below k) (ok_lawDraw T) room gd rfl T.lawDraw.g T.lawDraw.F.kp (b_lawDraw T) pass0 (da_cons (de_var 0 rfl) (da_cons (de_var 1 rfl) da_nil)) fun as h =>
      ⟨D, C, k, rfl, h, by omega, Int.lt_of_le_of_lt (b := 64) (by omega) (by decide), rfl⟩) fun y z e1 ⟨r, e2, r0, r1⟩ => ?_) fun a ha => ⟨rfl, ha⟩)
    subst e1 e2
    obtain ⟨j, rfl⟩ := Int.eq_ofNat_of_zero_le r0
    refine ar_int ⟨r0, by omega, by decide⟩ ⟨_, rfl, ?_, ?_⟩
    · rw [Int.one_mul]
      exact Int.le_of_lt (two_pow_pos _)
    · rw [Int.one_mul]
      show (2 : Int) ^ j < 2 ^ k
      have := Nat.pow_lt_pow_right (a := 2) (by decide) (show j < k by omega)
      have e1 : ((2 ^ j : Nat) : Int) = 2 ^ j := by norm_cast
      have e2 : ((2 ^ k : Nat) : Int) = 2 ^ k := by norm_cast
      omega
  refine ds_cons (ds_set 3 de_int (fun a ha => ?_) nd)
  subst ha
  refine ds_cons (ds_for (fun n item i S => S.rs = deckRs D C ∧ S.M = M ∧ ∃ f : Int, ∃ y2 y4, S.ρ = [some (.at D), some (aI k), y2, some (aI f), y4]) (RI := fun n item => item = AtR 0) (di_range1 rfl T.n_range (da_cons de_int da_nil) fun as h => ⟨5, h, by decide, by decide, rfl⟩)
    (dg_name 4 nd) (fun n item _ => ⟨rfl, rfl, 0, _, _, rfl⟩) (fun n item i S a hi hlt ⟨e1, e2, f, y2, y4, e3⟩ ia => ?_) (fun n item S hi ⟨e1, e2, f, y2, y4, e3⟩ => ?_) PassesOwn.never rfl)
  · subst hi
    subst ia
    obtain ⟨rs', M', ρ'⟩ := S
    cases e1
    cases e2
    cases e3
    refine ⟨_, rfl, ds_one (ds_set 3 (R := fun a => ∃ f : Int, a = aI f) (de_op op_add (de_mul (de_var 3 rfl) de_int (.inr ⟨by decide, by decide⟩)) (de_call (E := E0) (R := Below 65536) (ok_lawDraw T) room gd rfl T.lawDraw.g T.lawDraw.F.kp (b_lawDraw T) pass0 (da_cons (de_var 0 rfl) (da_cons de_int da_nil)) fun as h =>
      ⟨D, C, 65536, rfl, h, by decide, by decide, rfl⟩) fun y z e1 ⟨r, e2, _⟩ => by subst e1 e2; exact ar_int0 ⟨_, rfl⟩) (fun a ha => ?_) nd)⟩
    obtain ⟨g, rfl⟩ := ha
    exact ⟨rfl, rfl, g, _, _, rfl⟩
  · obtain ⟨rs', M', ρ'⟩ := S
    cases e1
    cases e2
    cases e3
    exact ds_one (ds_ret (de_mod (de_var 3 rfl) (de_shl de_int (de_var 1 rfl) sh) pw) fun a ha => ⟨rfl, _, ha, Int.emod_nonneg _ (Int.ne_of_gt pw), by rw [← ew]; exact Int.emod_lt_of_pos _ pw⟩)
theorem b_lawState (T : Txt K mg) : Binds K T.lawState.fd ["deck", "n", "w"] [] := T.lawState.F.binds fun _ _ _ _ _ _ us hl => match us, hl with | [_, _, _], _ => rfl
def S_lawState (rs : Rs) (M : Mem) (as : List Ab) (R : Ab → Prop) : Prop := ∃ (D C : Addr) (n k : Nat), rs = deckRs D C ∧ as = [.at D, aI n, aI k] ∧ n ≤ 100 ∧ 1 ≤ k ∧ k ≤ 64 ∧ R = IsState n k
theorem ok_lawState (T : Txt K mg) : FnG P w K mg base CX0 3 T.lawState.f T.lawState.fd ["deck", "n", "w"] (Spec K S_lawState) := by
  refine fn_go T.lawState.F sc_lawState (fun rs M as R ⟨_, _, _, _, _, h, _⟩ => by rw [h]; rfl) fun cdv A outer s H0 E room gd rs M as R t ro => ?_
  obtain ⟨D, C, n, k, rfl, rfl, hn, h1, h2, rfl⟩ := t
  have nd := sc_lawState.nd
  refine ds_one (ds_ret (R := IsState n k) (de_tupleOfR T.n_tuple (de_lcP (N := N_lawState) (sc := defScope s_lawState) 3 (n0 := n) (item0 := AtR 0) (W := fun d => ∃ i : Int, d = .int i ∧ (0 ≤ i ∧ i < 2 ^ k)) (di_range1 rfl T.n_range (da_cons (de_var 1 rfl) da_nil) fun as h => ⟨n, h, by omega, by omega, rfl, rfl⟩) nd (by decide +kernel) (by omega)
    (fun i a hi ia => fun s H C' cl fp => de_imp (de_call (E := E0) (R := Below (2 ^ k)) (ok_lawWord T) room gd rfl T.lawWord.g T.lawWord.F.kp (b_lawWord T) pass0 (da_cons (de_var 0 rfl) (da_cons (de_var 2 rfl) da_nil)) fun as h => ⟨D, C, k, rfl, h, h1, h2, rfl⟩) fun a ⟨r, e, hr⟩ => ⟨.int r, e, r, rfl, hr⟩) (fun s H C' cl fp => dg_name 3 nd))
    fun x ⟨ds, hx, hl, hd⟩ => ?_) fun a ha => ⟨rfl, ha⟩)
  obtain ⟨ws, rfl, hw⟩ := ints_of hd
  exact ⟨_, hx, ws, rfl, by rw [List.length_map] at hl; exact hl, hw⟩

/-! ### the law's own readers, more -/
theorem b_lawMixed (T : Txt K mg) : Binds K T.lawMixed.fd ["deck", "row"] [] := T.lawMixed.F.binds fun _ _ _ _ _ _ us hl => match us, hl with | [_, _], _ => rfl
def S_lawMixed (rs : Rs) (M : Mem) (as : List Ab) (R : Ab → Prop) : Prop := ∃ (D C : Addr) (ps : List Nat), rs = deckRs D C ∧ as = [.at D, aL ((nI ps).map .int)] ∧ ps.length ≤ 100 ∧ R = fun a => ∃ qs : List Nat, a = aL ((nI qs).map .int) ∧ qs.Perm ps
theorem ok_lawMixed (T : Txt K mg) : FnG P w K mg base CX0 2 T.lawMixed.f T.lawMixed.fd ["deck", "row"] (Spec K S_lawMixed) := by
  refine fn_go T.lawMixed.F sc_lawMixed (fun rs M as R ⟨_, _, _, _, h, _⟩ => by rw [h]; rfl) fun cdv A outer s H0 E room gd rs M as R t ro => ?_
  obtain ⟨D, C, ps, rfl, rfl, hp, rfl⟩ := t
  have nd := sc_lawMixed.nd
  refine ds_cons (ds_par (i := 2) (j := 3) rfl nd (dax_cons (dx_new (T := fun as => as = ((nI ps).map .int).map .d) (dn_listOf T.n_list (de_var 1 rfl) (seqs_l _)) fun l as hl => dax_cons (dx_new (T := fun as => as = []) (dn_lst da_nil fun as h => by rw [h]; decide) fun f bs hf => dax_nil ⟨_, _, rfl, ?_⟩))))
  subst hl hf
  show DSs _ _ ⟨deckRs D C, ⟨f, true, .lst []⟩ :: ⟨l, true, .lst (((nI ps).map .int).map .d)⟩ :: M, [some (.at D), some (aL ((nI ps).map .int)), some (.at l), some (.at f)]⟩ _ _
  refine ds_cons (ds_while (fun m S => ∃ ls fs : List Nat, ls.length = m ∧ (fs ++ ls).Perm ps ∧ S = ⟨deckRs D C, ⟨f, true, .lst (((nI fs).map .int).map .d)⟩ :: ⟨l, true, .lst (((nI ls).map .int).map .d)⟩ :: M, [some (.at D), some (aL ((nI ps).map .int)), some (.at l), some (.at f)]⟩) ps.length ⟨ps, [], rfl, List.Perm.refl _, rfl⟩ (fun m S ⟨ls, fs, hm, hpm, e⟩ => ?_) PassesOwn.never)
  subst e
  have hlen := hpm.length_eq
  rw [List.length_append] at hlen
  refine ⟨_, dt_neD room.units (de_var 2 rfl) (de_lst (ds := []) da_nil) (view_at (List.mem_cons_of_mem _ List.mem_cons_self)) (view_d _) (shaped_ints _) rfl, fun h => ?_, fun h => ?_⟩
  · rw [eqv_nil] at h
    have ne : 0 < ls.length := by
      cases ls with
      | nil => cases h
      | cons _ _ => exact Nat.succ_pos _
    refine ds_one (ds_exprX (R := fun S' a => ∃ r p : Nat, ls[r]? = some p ∧ S' = ⟨deckRs D C, ⟨f, true, .lst (((nI fs).map .int).map .d ++ [aI (p : Int)])⟩ :: ⟨l, true, .lst (((nI (ls.eraseIdx r)).map .int).map .d)⟩ :: M, [some (.at D), some (aL ((nI ps).map .int)), some (.at l), some (.at f)]⟩) (dx_list (k := 0) PySem.F.slot_list_append PySem.F.type_list_append mt_append (de_var 3 rfl) rfl
      (dax_cons (dx_list (k := 1) (xs := ((nI ls).map .int).map .d) PySem.F.slot_list_pop PySem.F.type_list_pop mt_popAt (de_var 2 rfl) rfl
        (dax_cons (dx_of (de_call (E := E0) (R := Below (ls.length : Int)) (ok_lawDraw T) room gd rfl T.lawDraw.g T.lawDraw.F.kp (b_lawDraw T) pass0 (da_cons (de_var 0 rfl) (da_cons (de_is (de_len T.n_len (de_var 2 rfl) (seqs_at (List.mem_cons_of_mem _ List.mem_cons_self))) (by rw [nI_len])) da_nil)) fun as h => ⟨D, C, ls.length, rfl, h, by omega, Int.lt_of_le_of_lt (b := 100) (by omega) (by decide), rfl⟩) fun a ⟨r, ea, r0, r1⟩ => dax_nil ?_)))
        )) fun S' a ⟨r, p, hr, e⟩ => ?_)
    · subst ea
      have hr : r.toNat < ls.length := by omega
      obtain ⟨p, hp'⟩ : ∃ p, ls[r.toNat]? = some p := ⟨_, List.getElem?_eq_getElem hr⟩
      refine lm_popAt (k := 1) (j := r.toNat) (a := aI (p : Int)) rfl (Int.le_trans (by decide) r0) (Int.lt_of_lt_of_le r1 (Int.le_trans (b := 100) (by omega) (by decide))) ?_ (nI_get hp') ?_
      · have := (ixN_seq (n := (((nI ls).map PyData.int).map Ab.d).length) (i := r) (j := r.toNat) (by
          have e := ixN_nat (n := (((nI ls).map PyData.int).map Ab.d).length) (j := r.toNat) (by rw [nI_len]; exact hr)
          rw [Int.toNat_of_nonneg r0] at e
          exact e)).1
        exact this
      · rw [nI_erase]
        exact dax_nil (lm_append (k := 0) rfl (by rw [nI_len]; omega) ⟨r.toNat, p, hp', rfl⟩)
    · subst e
      refine ⟨m - 1, by omega, ls.eraseIdx r, fs ++ [p], ?_, perm_move hr hpm, by rw [nI_snoc]⟩
      have := (perm_erase hr).length_eq
      rw [List.length_cons] at this
      omega
  · rw [eqv_nil] at h
    have e : ls = [] := by
      cases ls with
      | nil => rfl
      | cons _ _ => cases h
    subst e
    rw [List.append_nil] at hpm
    exact ds_one (ds_retOwn (i := 3) (k := 0) (ds := (nI fs).map .int) rfl rfl (fun b h => h) ⟨rfl, fs, rfl, hpm⟩)

theorem b_lawDeed (T : Txt K mg) : Binds K T.lawDeed.fd ["deck", "n", "words"] [] := T.lawDeed.F.binds fun _ _ _ _ _ _ us hl => match us, hl with | [_, _, _], _ => rfl
def IsDeed (n : Nat) (ks : List Str) : Ab → Prop := fun a => ∃ d : Dd, a = aT d.row ∧ d.Ok n ∧ d.word ∈ ks
def S_lawDeed (rs : Rs) (M : Mem) (as : List Ab) (R : Ab → Prop) : Prop := ∃ (D C : Addr) (n : Nat) (ks : List Str), rs = deckRs D C ∧ as = [.at D, aI n, aL (ks.map .str)] ∧ 3 ≤ n ∧ n ≤ 100 ∧ ks ≠ [] ∧ ks.length ≤ 100 ∧ (∀ k ∈ ks, k = "add" ∨ k = "xor" ∨ k = "and" ∨ k = "one") ∧ R = IsDeed n ks
theorem ok_lawDeed (T : Txt K mg) : FnG P w K mg base CX0 3 T.lawDeed.f T.lawDeed.fd ["deck", "n", "words"] (Spec K S_lawDeed) := by
  refine fn_go T.lawDeed.F sc_lawDeed (fun rs M as R ⟨_, _, _, _, _, h, _⟩ => by rw [h]; rfl) fun cdv A outer s H0 E room gd rs M as R t ro => ?_
  obtain ⟨D, C, n, ks, rfl, rfl, n1, n2, k1, k2, k3, rfl⟩ := t
  have nd := sc_lawDeed.nd
  refine ds_cons (ds_par (i := 3) (j := 4) rfl nd (dax_cons (dx_of (de_call (E := E0) (R := fun a => ∃ k, a = aS k ∧ k ∈ ks) (ok_lawPick T) room gd rfl T.lawPick.g T.lawPick.F.kp (b_lawPick T) pass0 (da_cons (de_var 0 rfl) (da_cons (de_var 2 rfl) da_nil)) fun as h => ⟨D, C, ks.map .str, rfl, h, fun z => k1 (List.map_eq_nil_iff.mp z), by rw [List.length_map]; omega, fun d hd => by
      obtain ⟨k, hk, rfl⟩ := List.mem_map.mp hd
      exact ⟨k, rfl, hk⟩⟩) fun a ha =>
    dax_cons (dx_of (de_call (E := E0) (R := fun a => ∃ qs : List Nat, a = aL ((nI qs).map .int) ∧ qs.Perm (List.range n)) (ok_lawMixed T) room gd rfl T.lawMixed.g T.lawMixed.F.kp (b_lawMixed T) pass0 (da_cons (de_var 0 rfl) (da_cons (de_of_dn (R := Is (aL ((nI (List.range n)).map .int))) (dn_listRange (i := (n : Int)) rfl T.n_list T.n_range (de_var 1 rfl) (by omega) (by omega)) fun as h => ⟨(nI (List.range n)).map .int, by
      rw [h, Int.toNat_natCast]
      unfold nI
      rw [List.map_map, List.map_map]
      rfl, rfl⟩) da_nil)) fun as h => ⟨D, C, List.range n, rfl, h, by rw [List.length_range]; omega, rfl⟩) fun b hb => dax_nil ⟨_, _, rfl, ?_⟩))))
  obtain ⟨k, rfl, hk⟩ := ha
  obtain ⟨qs, rfl, hq⟩ := hb
  have hlen := hq.length_eq
  rw [List.length_range] at hlen
  have hnd : qs.Nodup := hq.nodup_iff.mpr List.nodup_range
  have hin : ∀ q ∈ qs, q < n := fun q h => List.mem_range.mp (hq.mem_iff.mp h)
  match qs, hlen, hnd, hin with
  | [], h, _, _ => exact absurd h (by show ¬ 0 = n; omega)
  | [_], h, _, _ => exact absurd h (by show ¬ 1 = n; omega)
  | [_, _], h, _, _ => exact absurd h (by show ¬ 2 = n; omega)
  | p :: q :: r :: rest, _, hnd, hin =>
    have hp := hin p List.mem_cons_self
    have hq := hin q (List.mem_cons_of_mem _ List.mem_cons_self)
    have hr := hin r (List.mem_cons_of_mem _ (List.mem_cons_of_mem _ List.mem_cons_self))
    rw [List.nodup_cons] at hnd
    have pq : p ≠ q := fun z => hnd.1 (z ▸ List.mem_cons_self)
    have pr : p ≠ r := fun z => hnd.1 (z ▸ List.mem_cons_of_mem _ List.mem_cons_self)
    show DSs _ _ ⟨deckRs D C, M, [some (.at D), some (aI n), some (aL (ks.map .str)), some (aS k), some (aL ((nI (p :: q :: r :: rest)).map .int))]⟩ _ _
    have no : ∀ {s t : Str} {c : Bool} {Q : Prop}, (s == t) = false → c = decide (s = t) → c = true → Q := fun n h e => by rw [strne h n] at e; cases e
    have yes : ∀ {s : Str} {Q : Prop}, false = decide (s = s) → Q := fun h => by rw [decide_eq_true rfl] at h; cases h
    have g0 : atI (((nI (p :: q :: r :: rest)).map PyData.int).map Ab.d) 0 = some (aI p) := atI_nat (j := 0) rfl
    have g1 : atI (((nI (p :: q :: r :: rest)).map PyData.int).map Ab.d) 1 = some (aI q) := atI_nat (j := 1) rfl
    rcases k3 k hk with rfl | rfl | rfl | rfl
    · refine ds_cons (ds_if (dt_eqS (de_var 3 rfl) de_str) (fun h => no rfl h rfl) fun _ => ds_nil ?_)
      refine ds_cons (ds_if (dt_eqS (de_var 3 rfl) de_str) (fun h => no rfl h rfl) fun _ => ds_nil ?_)
      exact ds_one (ds_ret (de_tup (ds := Dd.row (.add p q)) (da_cons (de_var 3 rfl) (da_cons (de_ix (de_var 4 rfl) de_int (seqs_l _) g0) (da_cons (de_ix (de_var 4 rfl) de_int (seqs_l _) g1) da_nil)))) fun a ha => ⟨rfl, .add p q, ha, ⟨hp, hq, pq⟩, hk⟩)
    · refine ds_cons (ds_if (dt_eqS (de_var 3 rfl) de_str) (fun h => no rfl h rfl) fun _ => ds_nil ?_)
      refine ds_cons (ds_if (dt_eqS (de_var 3 rfl) de_str) (fun h => no rfl h rfl) fun _ => ds_nil ?_)
      exact ds_one (ds_ret (de_tup (ds := Dd.row (.xor p q)) (da_cons (de_var 3 rfl) (da_cons (de_ix (de_var 4 rfl) de_int (seqs_l _) g0) (da_cons (de_ix (de_var 4 rfl) de_int (seqs_l _) g1) da_nil)))) fun a ha => ⟨rfl, .xor p q, ha, ⟨hp, hq, pq⟩, hk⟩)
    · refine ds_cons (ds_if (dt_eqS (de_var 3 rfl) de_str) (fun h => no rfl h rfl) fun _ => ds_nil ?_)
      have cut : cutA (((nI (p :: q :: r :: rest)).map PyData.int).map Ab.d) (some 1) (some 3) = ([(q : Int), (r : Int)].map PyData.int).map Ab.d := by
        have e := cut_mid (xs := ((nI (p :: q :: r :: rest)).map PyData.int).map Ab.d) (p := 1) (q := 3) (by rw [nI_len]; show 3 ≤ rest.length + 1 + 1 + 1; omega) (by decide)
        rw [show (1 : Int) = ((1 : Nat) : Int) from rfl, show (3 : Int) = ((3 : Nat) : Int) from rfl, e]
        rfl
      have pair : ∀ {X : Cx} {e : Expr} {p1 p2 p3 p4 : Pos} {k1 k3 : Nat}, DE X (deckRs D C) M [some (.at D), some (aI n), some (aL (ks.map .str)), some (aS "and"), some (aL ((nI (p :: q :: r :: rest)).map .int))] e (Is (aL ((nI (p :: q :: r :: rest)).map .int))) → DE X (deckRs D C) M [some (.at D), some (aI n), some (aL (ks.map .str)), some (aS "and"), some (aL ((nI (p :: q :: r :: rest)).map .int))] (.Subscript e (.Slice (some (.Constant (.int 1) k1 p1)) (some (.Constant (.int 3) k3 p2)) none p3) p4) (Is (aL ([(q : Int), (r : Int)].map .int))) := fun h =>
        de_of_dn (dn_slL h (seqM_l _).l (do_some de_int) (do_some de_int)) fun as h => ⟨_, by rw [h, cut], rfl⟩
      refine ds_cons (ds_if (dt_eqS (de_var 3 rfl) de_str) (fun _ => ds_one (ds_ret (de_tup (ds := Dd.row (.and p (min q r) (max q r))) (da_cons de_str (da_cons (de_ix (de_var 4 rfl) de_int (seqs_l _) g0) (da_cons (de_minL (m := ((min q r : Nat) : Int)) rfl T.n_min (pair (de_var 4 rfl)) ?_ ?_) (da_cons (de_maxL (m := ((max q r : Nat) : Int)) rfl T.n_max (pair (de_var 4 rfl)) ?_ ?_) da_nil))))) fun a ha => ⟨rfl, .and p (min q r) (max q r), ha, ⟨hp, by omega, by omega, by omega, by omega⟩, hk⟩)) fun h => yes h)
      · simp only [List.mem_cons, List.not_mem_nil, or_false]; omega
      · simp only [List.mem_cons, List.not_mem_nil, or_false]; rintro y (rfl | rfl) <;> omega
      · simp only [List.mem_cons, List.not_mem_nil, or_false]; omega
      · simp only [List.mem_cons, List.not_mem_nil, or_false]; rintro y (rfl | rfl) <;> omega
    · exact ds_cons (ds_if (dt_eqS (de_var 3 rfl) de_str) (fun _ => ds_one (ds_ret (de_tup (ds := Dd.row (.one p)) (da_cons de_str (da_cons (de_ix (de_var 4 rfl) de_int (seqs_l _) g0) da_nil))) fun a ha => ⟨rfl, .one p, ha, hp, hk⟩)) fun h => yes h)

/-! ### flat rows of deeds -/
theorem b_lawFlat (T : Txt K mg) : Binds K T.lawFlat.fd ["term", "parts"] [] := T.lawFlat.F.binds fun _ _ _ _ _ _ us hl => match us, hl with | [_, _], _ => rfl
def S_lawFlat (r n g : Nat) (ks : List Str) (b h : Nat) (rs : Rs) (M : Mem) (as : List Ab) (R : Ab → Prop) : Prop := ∃ (q : Addr) (ps : List (List Stp)) (t : Trm), M = [⟨q, false, .lst ((flatsD ps).map .d)⟩] ∧ as = [.d t.dat, .at q] ∧ (∀ f ∈ ps, f.length ≤ b) ∧ g ≤ ps.length ∧ Lim r n g ks h t ∧ R = Is (aL (stepsD (t.flat ps)))
theorem ok_lawFlat (T : Txt K mg) {r n g : Nat} {ks : List Str} {b : Nat} (hr : 1 ≤ r) (hb : 1 ≤ b) : ∀ h : Nat, b * r ^ h ≤ 100000 → FnG P w K mg base CX0 (h + 1) T.lawFlat.f T.lawFlat.fd ["term", "parts"] (Spec K (S_lawFlat r n g ks b h)) := by
  intro h
  induction h with
  | zero =>
    intro hB
    refine fn_go T.lawFlat.F sc_lawFlat (fun rs M as R ⟨_, _, _, _, h, _⟩ => by rw [h]; rfl) fun cdv A outer s H0 E room gd rs M as R t ro => ?_
    obtain ⟨q, ps, t, rfl, rfl, hp, hg, lim, rfl⟩ := t
    cases t with
    | act d =>
      rw [dat_act]
      refine ds_cons (ds_if (dt_eqS (de_ix (y := aS "do") (de_var 0 rfl) de_int (seqs_t _) rfl) de_str) (fun _ => ds_one (ds_ret (de_lst (ds := stepsD [(d, false)]) (da_cons (de_tup (ds := [.tuple d.row, .bool false]) (da_cons (de_ix (y := aT d.row) (de_var 0 rfl) de_int (seqs_t _) rfl) (da_cons de_bl da_nil))) da_nil)) fun a ha => ⟨rfl, by simp only [Trm.flat]; exact ha⟩)) fun h => str_yes h)
    | part p =>
      rw [dat_part]
      refine ds_cons (ds_if (dt_eqS (de_ix (y := aS "part") (de_var 0 rfl) de_int (seqs_t _) rfl) de_str) (fun h => str_no rfl h rfl) fun _ => ds_nil ?_)
      have hp : p < ps.length := Nat.lt_of_lt_of_le lim hg
      refine ds_cons (ds_if (dt_eqS (de_ix (y := aS "part") (de_var 0 rfl) de_int (seqs_t _) rfl) de_str) (fun _ => ds_one (ds_ret (de_ix (y := aL (stepsD (ps.getD p []))) (de_var 1 rfl) (de_ix (y := aI p) (de_var 0 rfl) de_int (seqs_t _) rfl) (seqs_at List.mem_cons_self) (atI_nat ?_)) fun a ha => ⟨rfl, by simp only [Trm.flat]; exact ha⟩)) fun h => str_yes h)
      unfold flatsD
      rw [List.map_map, List.getElem?_map, List.getElem?_eq_getElem hp, List.getD_eq_getElem?_getD, List.getElem?_eq_getElem hp]
      rfl
    | row ts => exact lim.elim
    | back t => exact lim.elim
    | times t k => exact lim.elim
  | succ h ih =>
    intro hB
    have hB0 : b * r ^ h ≤ 100000 := Nat.le_trans (Nat.mul_le_mul_left b (Nat.pow_le_pow_right hr (Nat.le_succ h))) hB
    have ih := ih hB0
    refine fn_go T.lawFlat.F sc_lawFlat (fun rs M as R ⟨_, _, _, _, h, _⟩ => by rw [h]; rfl) fun cdv A outer s H0 E room gd rs M as R t ro => ?_
    obtain ⟨q, ps, t, rfl, rfl, hp, hg, lim, rfl⟩ := t
    have nd := sc_lawFlat.nd
    have bnd := lim_len hr hb hp (h + 1) t lim
    have sub1 : ∀ e ∈ ([⟨q, false, .lst ((flatsD ps).map .d)⟩] : Mem), e.mu = false ∧ ∃ m, (⟨e.p, m, e.o⟩ : Me) ∈ ([⟨q, false, .lst ((flatsD ps).map .d)⟩] : Mem) := fun e he => by
      rw [List.mem_singleton.mp he]
      exact ⟨rfl, false, List.mem_cons_self⟩
    have nd1 : ∀ (j k : Nat) (e f : Me), ([⟨q, false, .lst ((flatsD ps).map .d)⟩] : Mem)[j]? = some e → ([⟨q, false, .lst ((flatsD ps).map .d)⟩] : Mem)[k]? = some f → e.p = f.p → j = k := fun j k e f hj hk _ => by
      have := (List.getElem?_eq_some_iff.mp hj).1
      have := (List.getElem?_eq_some_iff.mp hk).1
      simp only [List.length_cons, List.length_nil] at *
      omega
    cases t with
    | act d =>
      rw [dat_act]
      refine ds_cons (ds_if (dt_eqS (de_ix (y := aS "do") (de_var 0 rfl) de_int (seqs_t _) rfl) de_str) (fun _ => ds_one (ds_ret (de_lst (ds := stepsD [(d, false)]) (da_cons (de_tup (ds := [.tuple d.row, .bool false]) (da_cons (de_ix (y := aT d.row) (de_var 0 rfl) de_int (seqs_t _) rfl) (da_cons de_bl da_nil))) da_nil)) fun a ha => ⟨rfl, by simp only [Trm.flat]; exact ha⟩)) fun h => str_yes h)
    | part p =>
      rw [dat_part]
      refine ds_cons (ds_if (dt_eqS (de_ix (y := aS "part") (de_var 0 rfl) de_int (seqs_t _) rfl) de_str) (fun h => str_no rfl h rfl) fun _ => ds_nil ?_)
      have hp : p < ps.length := Nat.lt_of_lt_of_le lim hg
      refine ds_cons (ds_if (dt_eqS (de_ix (y := aS "part") (de_var 0 rfl) de_int (seqs_t _) rfl) de_str) (fun _ => ds_one (ds_ret (de_ix (y := aL (stepsD (ps.getD p []))) (de_var 1 rfl) (de_ix (y := aI p) (de_var 0 rfl) de_int (seqs_t _) rfl) (seqs_at List.mem_cons_self) (atI_nat ?_)) fun a ha => ⟨rfl, by simp only [Trm.flat]; exact ha⟩)) fun h => str_yes h)
      unfold flatsD
      rw [List.map_map, List.getElem?_map, List.getElem?_eq_getElem hp, List.getD_eq_getElem?_getD, List.getElem?_eq_getElem hp]
      rfl
    | row ts =>
      rw [dat_row]
      refine ds_cons (ds_if (dt_eqS (de_ix (y := aS "row") (de_var 0 rfl) de_int (seqs_t _) rfl) de_str) (fun h => str_no rfl h rfl) fun _ => ds_nil ?_)
      refine ds_cons (ds_if (dt_eqS (de_ix (y := aS "row") (de_var 0 rfl) de_int (seqs_t _) rfl) de_str) (fun h => str_no rfl h rfl) fun _ => ds_nil ?_)
      refine ds_cons (ds_if (dt_eqS (de_ix (y := aS "row") (de_var 0 rfl) de_int (seqs_t _) rfl) de_str) (fun _ => ?_) fun h => str_yes h)
      refine ds_cons (ds_set 2 (de_lst (ds := []) da_nil) (fun a ha => ?_) nd)
      subst ha
      show DSs _ _ ⟨rs, [⟨q, false, .lst ((flatsD ps).map .d)⟩], [some (aT [.str "row", .tuple (ts.map Trm.dat)]), some (.at q), some (aL []), none, none, none, none]⟩ _ _
      refine ds_cons (ds_for (fun m item i S => ∃ y3, S = ⟨rs, [⟨q, false, .lst ((flatsD ps).map .d)⟩], [some (aT [.str "row", .tuple (ts.map Trm.dat)]), some (.at q), some (aL (stepsD (((ts.take i).map (Trm.flat ps)).flatten))), y3, none, none, none]⟩) (RI := fun m item => m = ts.length ∧ item = AtD (ts.map Trm.dat))
        (di_tup (de_ix (y := aT (ts.map Trm.dat)) (de_var 0 rfl) de_int (seqs_t _) rfl) fun y h => ⟨_, h, by rw [List.length_map], rfl⟩) (dg_name 3 nd) (fun m item _ => ⟨none, rfl⟩) (fun m item i S a ⟨hm, hi⟩ hlt ⟨y3, e⟩ ia => ?_) (fun m item S ⟨hm, hi⟩ ⟨y3, e⟩ => ?_) PassesOwn.never rfl)
      · subst hm hi e
        obtain ⟨x, hx, rfl⟩ := atD_get ia
        rw [List.getElem?_map] at hx
        match he : ts[i]?, hx with
        | some t, hx =>
          have hx : t.dat = x := Option.some.inj hx
          subst hx
          have limt := lim.2 t (List.mem_of_getElem? he)
          have l1 := lim_len hr hb hp h t limt
          have l2 : (((ts.take i).map (Trm.flat ps)).flatten).length ≤ 100000 := by
            have all := flat_len_sum (f := Trm.flat ps) (B := b * r ^ h) (ts.take i) fun u hu => lim_len hr hb hp h u (lim.2 u (List.mem_of_mem_take hu))
            have : (ts.take i).length ≤ r := Nat.le_trans (by rw [List.length_take]; omega) lim.1
            have := Nat.mul_le_mul_right (b * r ^ h) this
            rw [Nat.pow_succ, Nat.mul_comm (r ^ h) r, Nat.mul_left_comm] at hB
            omega
          have l3 : (((ts.take i).map (Trm.flat ps)).flatten).length + (t.flat ps).length ≤ 100000 := by
            have all := flat_len_sum (f := Trm.flat ps) (B := b * r ^ h) (ts.take (i + 1)) fun u hu => lim_len hr hb hp h u (lim.2 u (List.mem_of_mem_take hu))
            have : (ts.take (i + 1)).length ≤ r := Nat.le_trans (by rw [List.length_take]; omega) lim.1
            have := Nat.mul_le_mul_right (b * r ^ h) this
            rw [Nat.pow_succ, Nat.mul_comm (r ^ h) r, Nat.mul_left_comm] at hB
            rw [take_snoc he, List.map_append, List.flatten_append, List.length_append] at all
            simp only [List.map_cons, List.map_nil, List.flatten_cons, List.flatten_nil, List.append_nil] at all
            rw [← take_snoc he] at all
            omega
          refine ⟨_, rfl, ds_one (ds_set 2 (R := Is (aL (stepsD (((ts.take (i + 1)).map (Trm.flat ps)).flatten)))) (de_of_dn (dn_cat (de_var 2 rfl) (de_callM (E := E0) (M' := [⟨q, false, .lst ((flatsD ps).map .d)⟩]) (R := Is (aL (stepsD (t.flat ps)))) ih room gd rfl T.lawFlat.g T.lawFlat.F.kp (b_lawFlat T) pass0 (da_cons (de_var 3 rfl) (da_cons (de_var 1 rfl) da_nil)) sub1 nd1 fun as h => ⟨q, ps, t, rfl, h, hp, hg, limt, rfl⟩) (seqM_l _) (seqM_l _) (by rw [List.length_map, List.length_map, stepsD_len, stepsD_len]; exact l3))
            fun as h => ⟨stepsD (((ts.take i).map (Trm.flat ps)).flatten ++ t.flat ps), by rw [h, stepsD_append, List.map_append], by rw [take_snoc he, List.map_append, List.flatten_append]; simp⟩) (fun a ha => ?_) nd)⟩
          subst ha
          exact ⟨some (.d t.dat), rfl⟩
      · subst hm hi e
        rw [List.take_length]
        exact ds_one (ds_ret (de_var 2 rfl) fun a ha => ⟨rfl, by simp only [Trm.flat, flats_map]; exact ha⟩)
    | back t =>
      rw [dat_back]
      simp only [Trm.flat] at bnd
      rw [turned_len] at bnd
      refine ds_cons (ds_if (dt_eqS (de_ix (y := aS "back") (de_var 0 rfl) de_int (seqs_t _) rfl) de_str) (fun h => str_no rfl h rfl) fun _ => ds_nil ?_)
      refine ds_cons (ds_if (dt_eqS (de_ix (y := aS "back") (de_var 0 rfl) de_int (seqs_t _) rfl) de_str) (fun h => str_no rfl h rfl) fun _ => ds_nil ?_)
      refine ds_cons (ds_if (dt_eqS (de_ix (y := aS "back") (de_var 0 rfl) de_int (seqs_t _) rfl) de_str) (fun h => str_no rfl h rfl) fun _ => ds_nil ?_)
      refine ds_cons (ds_set 4 (de_callM (E := E0) (M' := [⟨q, false, .lst ((flatsD ps).map .d)⟩]) (R := Is (aL (stepsD (t.flat ps)))) ih room gd rfl T.lawFlat.g T.lawFlat.F.kp (b_lawFlat T) pass0 (da_cons (de_ix (y := .d t.dat) (de_var 0 rfl) de_int (seqs_t _) rfl) (da_cons (de_var 1 rfl) da_nil)) sub1 nd1 fun as h => ⟨q, ps, t, rfl, h, hp, hg, lim, rfl⟩) (fun a ha => ?_) nd)
      subst ha
      show DSs _ _ ⟨rs, [⟨q, false, .lst ((flatsD ps).map .d)⟩], [some (aT [.str "back", t.dat]), some (.at q), none, none, some (aL (stepsD (t.flat ps))), none, none]⟩ _ _
      refine ds_cons (ds_if (dt_eqS (de_ix (y := aS "back") (de_var 0 rfl) de_int (seqs_t _) rfl) de_str) (fun h => str_no rfl h rfl) fun _ => ds_nil ?_)
      obtain ⟨f, hf⟩ : ∃ f, f = t.flat ps := ⟨_, rfl⟩
      rw [← hf] at bnd ⊢
      refine ds_one (ds_ret (R := Is (aL (stepsD (turned f)))) (de_of_dn (dn_lc (own := [("deed", 5), ("is_back", 6)]) (U := fun acc => acc = (stepsD (turned f)).map .d) (fun m item i acc => acc = (stepsD ((f.reverse.take i).map fun s => (s.1, !s.2))).map .d) (RI := fun m item => m = f.length ∧ item = AtD (stepsD f.reverse))
        (di_list (de_of_dn (R := Is (aL (stepsD f.reverse))) (dn_revL (de_var 4 rfl) (seqM_l _).l) fun as h => ⟨stepsD f.reverse, by rw [h]; unfold stepsD; rw [← List.map_reverse, ← List.map_reverse], rfl⟩) fun y h => ⟨_, h, by rw [stepsD_len, List.length_reverse], rfl⟩)
        rfl nd (blkOk_by (N := N_lawFlat) (sc := defScope s_lawFlat) (by decide +kernel)) (fun s H C' cl fp => dg_tup rfl (dgs_cons 5 (dgs_cons 6 dgs_nil nd) nd)) (fun _ _ _ => rfl) (fun m item i acc a ⟨q1, q2⟩ hlt ha ia => ?_) (fun m item acc ⟨q1, q2⟩ ha => by rw [ha, q1, ← List.length_reverse, List.take_length]; rfl) (fun i h => h)) fun as h => ⟨_, h, rfl⟩) fun a ha => ⟨rfl, by simp only [Trm.flat]; rw [← hf]; exact ha⟩)
      subst q1 q2 ha
      obtain ⟨x, hx, rfl⟩ := atD_get ia
      unfold stepsD at hx
      rw [List.getElem?_map] at hx
      match he : f.reverse[i]?, hx with
      | some s, hx =>
        obtain ⟨d, bk⟩ := s
        have hx : Stp.dat (d, bk) = x := Option.some.inj hx
        subst hx
        refine ⟨by rw [List.length_map, stepsD_len, List.length_map, List.length_take]; omega, _, fun b => b = true, ⟨_, rfl, rfl, rfl⟩, fun s H C' cl fp => dts_nil, fun _ => fun s H C' cl fp => de_imp (de_tup (ds := [.tuple d.row, .bool !bk]) (da_cons (de_var 5 rfl) (da_cons (de_not (R := Is (aB !bk)) (T := fun _ => True) (de_var 6 rfl) fun y h => ⟨bk, h, rfl⟩) da_nil))) fun u hu => ?_, fun h => nomatch h⟩
        rw [hu, take_snoc he, List.map_append, stepsD_append, List.map_append]
        rfl
    | times t k =>
      rw [dat_times]
      simp only [Trm.flat] at bnd
      rw [flat_rep_len] at bnd
      refine ds_cons (ds_if (dt_eqS (de_ix (y := aS "times") (de_var 0 rfl) de_int (seqs_t _) rfl) de_str) (fun h => str_no rfl h rfl) fun _ => ds_nil ?_)
      refine ds_cons (ds_if (dt_eqS (de_ix (y := aS "times") (de_var 0 rfl) de_int (seqs_t _) rfl) de_str) (fun h => str_no rfl h rfl) fun _ => ds_nil ?_)
      refine ds_cons (ds_if (dt_eqS (de_ix (y := aS "times") (de_var 0 rfl) de_int (seqs_t _) rfl) de_str) (fun h => str_no rfl h rfl) fun _ => ds_nil ?_)
      refine ds_cons (ds_set 4 (de_callM (E := E0) (M' := [⟨q, false, .lst ((flatsD ps).map .d)⟩]) (R := Is (aL (stepsD (t.flat ps)))) ih room gd rfl T.lawFlat.g T.lawFlat.F.kp (b_lawFlat T) pass0 (da_cons (de_ix (y := .d t.dat) (de_var 0 rfl) de_int (seqs_t _) rfl) (da_cons (de_var 1 rfl) da_nil)) sub1 nd1 fun as h => ⟨q, ps, t, rfl, h, hp, hg, lim.2, rfl⟩) (fun a ha => ?_) nd)
      subst ha
      show DSs _ _ ⟨rs, [⟨q, false, .lst ((flatsD ps).map .d)⟩], [some (aT [.str "times", t.dat, .int k]), some (.at q), none, none, some (aL (stepsD (t.flat ps))), none, none]⟩ _ _
      have hk : (k : Int) ≤ 100000 := by
        have h1 := lim.1
        have h2 : r ≤ b * r ^ (h + 1) := by
          have := Nat.pow_pos (n := h) hr
          have e1 : 1 * (1 * r) ≤ b * (r ^ h * r) := Nat.mul_le_mul hb (Nat.mul_le_mul_right r this)
          rw [Nat.pow_succ]
          omega
        omega
      refine ds_cons (ds_if (dt_eqS (de_ix (y := aS "times") (de_var 0 rfl) de_int (seqs_t _) rfl) de_str) (fun _ => ds_one (ds_ret (R := Is (aL (stepsD (List.replicate k (t.flat ps)).flatten))) (de_of_dn (dn_rep (k := (k : Int)) (de_var 4 rfl) (de_ix (y := aI k) (de_var 0 rfl) de_int (seqs_t _) rfl) (seqM_l _) (Int.le_trans (by decide) (Int.natCast_nonneg k)) (Int.lt_of_le_of_lt hk (by decide)) (by rw [List.length_map, stepsD_len, Int.toNat_natCast, Nat.mul_comm]; omega)) fun as h => ⟨(List.replicate k (stepsD (t.flat ps))).flatten, by rw [h, Int.toNat_natCast, ← List.map_replicate, ← List.map_flatten], by rw [stepsD_rep]⟩) fun a ha => ⟨rfl, by simp only [Trm.flat]; exact ha⟩)) fun h => str_yes h)

/-! ### drawn terms -/
theorem b_lawTerm (T : Txt K mg) : Binds K T.lawTerm.fd ["deck", "n", "words", "place", "deep"] [] := T.lawTerm.F.binds fun _ _ _ _ _ _ us hl => match us, hl with | [_, _, _, _, _], _ => rfl
theorem pick_nats {D C : Addr} {M : Mem} {ks : List Nat} {vm : Nat} (h0 : ks ≠ []) (hl : ks.length ≤ 1000) (h : ∀ k ∈ ks, k ≤ vm) : ∀ as, as = [.at D, aL ((nI ks).map .int)] → S_lawPick (deckRs D C) M as (fun a => ∃ k : Nat, a = aI k ∧ k ≤ vm) := fun as e => by
  refine ⟨D, C, _, rfl, e, fun z => h0 ?_, ?_, fun d hd => ?_⟩
  · exact List.map_eq_nil_iff.mp (List.map_eq_nil_iff.mp z)
  · unfold nI
    rw [List.length_map, List.length_map]
    omega
  · unfold nI at hd
    rw [List.map_map] at hd
    obtain ⟨k, hk, rfl⟩ := List.mem_map.mp hd
    exact ⟨k, rfl, h k hk⟩
def IsTerm (r n g : Nat) (ks : List Str) (h : Nat) : Ab → Prop := fun a => ∃ t : Trm, a = .d t.dat ∧ Lim r n g ks h t
def S_lawTerm (n g : Nat) (ks : List Str) (h : Nat) (rs : Rs) (M : Mem) (as : List Ab) (R : Ab → Prop) : Prop := ∃ (D C : Addr), rs = deckRs D C ∧ as = [.at D, aI n, aL (ks.map .str), aI g, aI h] ∧ 3 ≤ n ∧ n ≤ 100 ∧ g ≤ 1000 ∧ WordsOk ks ∧ R = IsTerm 5 n g ks h
theorem lim_act {r n g h : Nat} {ks : List Str} {d : Dd} (hd : d.Ok n) (hk : d.word ∈ ks) : Lim r n g ks h (.act d) := by cases h <;> exact ⟨hd, hk⟩
theorem lim_part {r n g h p : Nat} {ks : List Str} (hp : p < g) : Lim r n g ks h (.part p) := by cases h <;> exact hp
theorem ok_lawTerm (T : Txt K mg) {n g : Nat} {ks : List Str} : ∀ h : Nat, FnG P w K mg base CX0 (h + 4) T.lawTerm.f T.lawTerm.fd ["deck", "n", "words", "place", "deep"] (Spec K (S_lawTerm n g ks h)) := by
  intro h
  induction h with
  | zero =>
    refine fn_go T.lawTerm.F sc_lawTerm (fun rs M as R ⟨_, _, _, h, _⟩ => by rw [h]; rfl) fun cdv A outer s H0 E room gd rs M as R t ro => ?_
    obtain ⟨D, C, rfl, rfl, n1, n2, hg, hks, rfl⟩ := t
    have nd := sc_lawTerm.nd
    have room1 : Room 1 _ := room.mono (by decide)
    refine ds_cons (ds_set 5 (R := Below 10) (de_call (E := E0) (ok_lawDraw T) room1 gd rfl T.lawDraw.g T.lawDraw.F.kp (b_lawDraw T) pass0 (da_cons (de_var 0 rfl) (da_cons de_int da_nil)) fun as h => ⟨D, C, 10, rfl, h, by decide, by decide, rfl⟩) (fun a ⟨way, ha, w0, w1⟩ => ?_) nd)
    subst ha
    show DSs _ _ ⟨deckRs D C, M, [some (.at D), some (aI n), some (aL (ks.map .str)), some (aI g), some (aI (0 : Nat)), some (aI way), none, none, none]⟩ _ _
    refine ds_cons (ds_if (T := fun b => b = true → 0 < g) (PW.pt (dw_and (dt_gt (de_var 5 rfl) de_int) (fun _ => dw_and1 (dt_gt (de_var 3 rfl) de_int)) (fun _ c hc e => by rw [e] at hc; have := of_decide_eq_true hc.symm; omega) (fun _ e => nomatch e))) (fun hg0 => ds_one (ds_ret (R := IsTerm 5 n g ks 0) (de_tupR (T := fun as => ∃ p : Nat, as = [aS "part", aI p] ∧ p < g) (da_consR de_str (da_consR (T' := fun as => ∃ p : Nat, as = [aI p] ∧ p < g) (de_call (E := E0) (R := Below g) (ok_lawDraw T) room1 gd rfl T.lawDraw.g T.lawDraw.F.kp (b_lawDraw T) pass0 (da_cons (de_var 0 rfl) (da_cons (de_var 3 rfl) da_nil)) fun as h => ⟨D, C, g, rfl, h, by have := hg0 rfl; omega, Int.lt_of_le_of_lt (b := 1000) (by omega) (by decide), rfl⟩) da_nil
      (fun y ys ⟨r, h1, r0, r1⟩ h2 => ⟨r.toNat, by rw [h1, h2]; congr 2; omega, by omega⟩)) (fun y ys h1 ⟨p, h2, h3⟩ => ⟨p, by rw [h1, h2], h3⟩)) fun as ⟨p, h, hp⟩ => ⟨by rw [h]; show 2 ≤ 100000; decide, [.str "part", .int p], h, .part p, by rw [dat_part], lim_part hp⟩) fun a ha => ⟨rfl, ha⟩)) fun _ => ds_nil ?_)
    refine ds_cons (ds_if (T := fun b => b = true) (PW.pt (dw_or (T := fun _ => True) (dt_imp (dt_lt (de_var 5 rfl) de_int) fun _ _ => trivial) (fun _ => dw_or1 (dt_eqI (de_var 4 rfl) de_int)) (fun _ => rfl) (fun _ c hc => by rw [hc]; rfl))) (fun _ => ds_one (ds_ret (R := IsTerm 5 n g ks 0) (de_tupR (T := fun as => ∃ d : Dd, as = [aS "do", aT d.row] ∧ d.Ok n ∧ d.word ∈ ks) (da_consR de_str (da_consR (T' := fun as => ∃ d : Dd, as = [aT d.row] ∧ d.Ok n ∧ d.word ∈ ks) (de_call (E := E0) (R := IsDeed n ks) (ok_lawDeed T) (room.mono (by decide)) gd rfl T.lawDeed.g T.lawDeed.F.kp (b_lawDeed T) pass0 (da_cons (de_var 0 rfl) (da_cons (de_var 1 rfl) (da_cons (de_var 2 rfl) da_nil))) fun as h => ⟨D, C, n, ks, rfl, h, n1, n2, hks.1, hks.2.1, hks.2.2, rfl⟩) da_nil
      (fun y ys ⟨d, h1, h3⟩ h2 => ⟨d, by rw [h1, h2], h3⟩)) (fun y ys h1 ⟨d, h2, h3⟩ => ⟨d, by rw [h1, h2], h3⟩)) fun as ⟨d, h, hd⟩ => ⟨by rw [h]; show 2 ≤ 100000; decide, [.str "do", .tuple d.row], h, .act d, by rw [dat_act], lim_act hd.1 hd.2⟩) fun a ha => ⟨rfl, ha⟩)) fun h => nomatch h)
  | succ h ih =>
    refine fn_go T.lawTerm.F sc_lawTerm (fun rs M as R ⟨_, _, _, h, _⟩ => by rw [h]; rfl) fun cdv A outer s H0 E room gd rs M as R t ro => ?_
    obtain ⟨D, C, rfl, rfl, n1, n2, hg, hks, rfl⟩ := t
    have nd := sc_lawTerm.nd
    have room1 : Room 1 _ := room.mono (by omega)
    have room2 : Room 2 _ := room.mono (by omega)
    refine ds_cons (ds_set 5 (R := Below 10) (de_call (E := E0) (ok_lawDraw T) room1 gd rfl T.lawDraw.g T.lawDraw.F.kp (b_lawDraw T) pass0 (da_cons (de_var 0 rfl) (da_cons de_int da_nil)) fun as h => ⟨D, C, 10, rfl, h, by decide, by decide, rfl⟩) (fun a ⟨way, ha, w0, w1⟩ => ?_) nd)
    subst ha
    show DSs _ _ ⟨deckRs D C, M, [some (.at D), some (aI n), some (aL (ks.map .str)), some (aI g), some (aI ((h + 1 : Nat) : Int)), some (aI way), none, none, none]⟩ _ _
    refine ds_cons (ds_if (T := fun b => b = true → 0 < g) (PW.pt (dw_and (dt_gt (de_var 5 rfl) de_int) (fun _ => dw_and1 (dt_gt (de_var 3 rfl) de_int)) (fun _ c hc e => by rw [e] at hc; have := of_decide_eq_true hc.symm; omega) (fun _ e => nomatch e))) (fun hg0 => ds_one (ds_ret (R := IsTerm 5 n g ks (h + 1)) (de_tupR (T := fun as => ∃ p : Nat, as = [aS "part", aI p] ∧ p < g) (da_consR de_str (da_consR (T' := fun as => ∃ p : Nat, as = [aI p] ∧ p < g) (de_call (E := E0) (R := Below g) (ok_lawDraw T) room1 gd rfl T.lawDraw.g T.lawDraw.F.kp (b_lawDraw T) pass0 (da_cons (de_var 0 rfl) (da_cons (de_var 3 rfl) da_nil)) fun as h => ⟨D, C, g, rfl, h, by have := hg0 rfl; omega, Int.lt_of_le_of_lt (b := 1000) (by omega) (by decide), rfl⟩) da_nil
      (fun y ys ⟨r, h1, r0, r1⟩ h2 => ⟨r.toNat, by rw [h1, h2]; congr 2; omega, by omega⟩)) (fun y ys h1 ⟨p, h2, h3⟩ => ⟨p, by rw [h1, h2], h3⟩)) fun as ⟨p, h, hp⟩ => ⟨by rw [h]; show 2 ≤ 100000; decide, [.str "part", .int p], h, .part p, by rw [dat_part], lim_part hp⟩) fun a ha => ⟨rfl, ha⟩)) fun _ => ds_nil ?_)
    refine ds_cons (ds_if (T := fun b => True) (PW.pt (dw_or (T := fun _ => True) (dt_imp (dt_lt (de_var 5 rfl) de_int) fun _ _ => trivial) (fun _ => dw_or1 (dt_imp (dt_eqI (de_var 4 rfl) de_int) fun _ _ => trivial)) (fun _ => trivial) (fun _ c hc => hc))) (fun _ => ds_one (ds_ret (R := IsTerm 5 n g ks (h + 1)) (de_tupR (T := fun as => ∃ d : Dd, as = [aS "do", aT d.row] ∧ d.Ok n ∧ d.word ∈ ks) (da_consR de_str (da_consR (T' := fun as => ∃ d : Dd, as = [aT d.row] ∧ d.Ok n ∧ d.word ∈ ks) (de_call (E := E0) (R := IsDeed n ks) (ok_lawDeed T) (room.mono (by omega)) gd rfl T.lawDeed.g T.lawDeed.F.kp (b_lawDeed T) pass0 (da_cons (de_var 0 rfl) (da_cons (de_var 1 rfl) (da_cons (de_var 2 rfl) da_nil))) fun as h => ⟨D, C, n, ks, rfl, h, n1, n2, hks.1, hks.2.1, hks.2.2, rfl⟩) da_nil
      (fun y ys ⟨d, h1, h3⟩ h2 => ⟨d, by rw [h1, h2], h3⟩)) (fun y ys h1 ⟨d, h2, h3⟩ => ⟨d, by rw [h1, h2], h3⟩)) fun as ⟨d, h, hd⟩ => ⟨by rw [h]; show 2 ≤ 100000; decide, [.str "do", .tuple d.row], h, .act d, by rw [dat_act], lim_act hd.1 hd.2⟩) fun a ha => ⟨rfl, ha⟩)) fun _ => ds_nil ?_)
    have eh : ((h + 1 : Nat) : Int) - 1 = (h : Int) := by omega
    refine ds_cons (ds_if (T := fun b => True) (dt_imp (dt_lt (de_var 5 rfl) de_int) fun _ _ => trivial) (fun _ => ?_) fun _ => ds_nil ?_)
    · refine ds_cons (ds_set 6 (R := fun a => ∃ k : Nat, a = aI k ∧ k ≤ 5) (de_call (E := E0) (ok_lawPick T) room2 gd rfl T.lawPick.g T.lawPick.F.kp (b_lawPick T) pass0 (da_cons (de_var 0 rfl) (da_cons (de_lst (ds := (nI [0, 1, 2, 3, 3, 4, 5]).map .int) (da_cons de_int (da_cons de_int (da_cons de_int (da_cons de_int (da_cons de_int (da_cons de_int (da_cons de_int da_nil)))))))) da_nil)) (pick_nats (by decide) (by decide) (by decide))) (fun a ⟨k, ha, hk⟩ => ?_) nd)
      subst ha
      show DSs _ _ ⟨deckRs D C, M, [some (.at D), some (aI n), some (aL (ks.map .str)), some (aI g), some (aI ((h + 1 : Nat) : Int)), some (aI way), some (aI k), none, none]⟩ _ _
      refine ds_one (ds_ret (R := IsTerm 5 n g ks (h + 1)) (de_tupR (T := fun as => ∃ ts : List Trm, as = [aS "row", aT (ts.map Trm.dat)] ∧ ts.length ≤ 5 ∧ ∀ t ∈ ts, Lim 5 n g ks h t) (da_consR de_str (da_consR (T' := fun as => ∃ ts : List Trm, as = [aT (ts.map Trm.dat)] ∧ ts.length ≤ 5 ∧ ∀ t ∈ ts, Lim 5 n g ks h t)
        (de_tupleOfR (R := fun a => ∃ ts : List Trm, a = aT (ts.map Trm.dat) ∧ ts.length ≤ 5 ∧ ∀ t ∈ ts, Lim 5 n g ks h t) T.n_tuple (de_lcP (N := N_lawTerm) (sc := defScope s_lawTerm) 7 (n0 := k) (item0 := AtR 0) (W := fun d => ∃ t : Trm, d = t.dat ∧ Lim 5 n g ks h t) (di_range1 rfl T.n_range (da_cons (de_var 6 rfl) da_nil) fun as h => ⟨k, h, by omega, by omega, rfl, rfl⟩) nd (by decide +kernel) (by omega)
          (fun i a hi ia => fun s H C' cl fp => de_imp (de_call (E := E0) (R := IsTerm 5 n g ks h) ih room gd rfl T.lawTerm.g T.lawTerm.F.kp (b_lawTerm T) pass0 (da_cons (de_var 0 rfl) (da_cons (de_var 1 rfl) (da_cons (de_var 2 rfl) (da_cons (de_var 3 rfl) (da_cons (de_is (de_sub (de_var 4 rfl) de_int) (congrArg aI eh)) da_nil))))) fun as h => ⟨D, C, rfl, h, n1, n2, hg, hks, rfl⟩) fun a ⟨t, e, ht⟩ => ⟨t.dat, e, t, rfl, ht⟩) (fun s H C' cl fp => dg_name 7 nd)) fun x ⟨ds, hx, hl, hd⟩ => by
            obtain ⟨ts, rfl, hts⟩ := trms_of hd
            rw [List.length_map] at hl
            exact ⟨_, hx, ts, rfl, by omega, hts⟩) da_nil (fun y ys ⟨ts, h1, h3⟩ h2 => ⟨ts, by rw [h1, h2], h3⟩)) (fun y ys h1 ⟨ts, h2, h3⟩ => ⟨ts, by rw [h1, h2], h3⟩)) fun as ⟨ts, h, hts⟩ => ⟨by rw [h]; show 2 ≤ 100000; decide, [.str "row", .tuple (ts.map Trm.dat)], h, .row ts, by rw [dat_row], hts⟩) fun a ha => ⟨rfl, ha⟩)
    refine ds_cons (ds_set 8 (R := IsTerm 5 n g ks h) (de_call (E := E0) ih room gd rfl T.lawTerm.g T.lawTerm.F.kp (b_lawTerm T) pass0 (da_cons (de_var 0 rfl) (da_cons (de_var 1 rfl) (da_cons (de_var 2 rfl) (da_cons (de_var 3 rfl) (da_cons (de_is (de_sub (de_var 4 rfl) de_int) (congrArg aI eh)) da_nil))))) fun as h => ⟨D, C, rfl, h, n1, n2, hg, hks, rfl⟩) (fun a ⟨t, ha, ht⟩ => ?_) nd)
    subst ha
    show DSs _ _ ⟨deckRs D C, M, [some (.at D), some (aI n), some (aL (ks.map .str)), some (aI g), some (aI ((h + 1 : Nat) : Int)), some (aI way), none, none, some (.d t.dat)]⟩ _ _
    refine ds_one (ds_ret (R := IsTerm 5 n g ks (h + 1)) (de_ifR (dt_eqI (de_var 5 rfl) de_int) (fun _ => de_tupR (T := fun as => as = [aS "back", .d t.dat]) (da_cons de_str (da_cons (de_var 8 rfl) da_nil)) fun as h => ⟨by rw [h]; show 2 ≤ 100000; decide, [.str "back", t.dat], h, .back t, by rw [dat_back], ht⟩)
      (fun _ => de_tupR (T := fun as => ∃ k : Nat, as = [aS "times", .d t.dat, aI k] ∧ k ≤ 5) (da_consR de_str (da_consR (T' := fun as => ∃ k : Nat, as = [.d t.dat, aI k] ∧ k ≤ 5) (de_var 8 rfl) (da_consR (T' := fun as => ∃ k : Nat, as = [aI k] ∧ k ≤ 5) (de_call (E := E0) (R := fun a => ∃ k : Nat, a = aI k ∧ k ≤ 5) (ok_lawPick T) room2 gd rfl T.lawPick.g T.lawPick.F.kp (b_lawPick T) pass0 (da_cons (de_var 0 rfl) (da_cons (de_lst (ds := (nI [0, 1, 2, 3, 4]).map .int) (da_cons de_int (da_cons de_int (da_cons de_int (da_cons de_int (da_cons de_int da_nil)))))) da_nil)) (pick_nats (by decide) (by decide) (by decide))) da_nil
        (fun y ys ⟨k, h1, h3⟩ h2 => ⟨k, by rw [h1, h2], h3⟩)) (fun y ys h1 ⟨k, h2, h3⟩ => ⟨k, by rw [h1, h2], h3⟩)) (fun y ys h1 ⟨k, h2, h3⟩ => ⟨k, by rw [h1, h2], h3⟩)) fun as ⟨k, h, hk⟩ => ⟨by rw [h]; show 3 ≤ 100000; decide, [.str "times", t.dat, .int k], h, .times t k, by rw [dat_times], hk, ht⟩)) fun a ha => ⟨rfl, ha⟩)

/-! ### drawn programs -/
theorem b_lawProgram (T : Txt K mg) : Binds K T.lawProgram.fd ["deck", "n", "words", "many", "most"] [] := T.lawProgram.F.binds fun _ _ _ _ _ _ us hl => match us, hl with | [_, _, _, _, _], _ => rfl
/-- what a drawn program is -/
def Prog (n : Nat) (ks : List Str) (most : Nat) (ts : List Trm) : Prop := ts ≠ [] ∧ (∀ j t, ts[j]? = some t → Lim 5 n j ks 3 t ∨ Lim 11 n j ks 2 t) ∧ ∀ f ∈ pflats ts, f.length ≤ most
def S_lawProgram (rs : Rs) (M : Mem) (as : List Ab) (R : Ab → Prop) : Prop := ∃ (D C : Addr) (n many most : Nat) (ks : List Str), rs = deckRs D C ∧ as = [.at D, aI n, aL (ks.map .str), aI many, aI most] ∧ 3 ≤ n ∧ n ≤ 100 ∧ 1 ≤ many ∧ many ≤ 100 ∧ 1 ≤ most ∧ most ≤ 120 ∧ WordsOk ks ∧ R = fun a => ∃ ts : List Trm, a = aT (ts.map Trm.dat) ∧ Prog n ks most ts ∧ ts.length ≤ many + 1
theorem nd_one {q : Addr} {b : Bool} {o : MO} : ∀ (j k : Nat) (e f : Me), ([⟨q, b, o⟩] : Mem)[j]? = some e → ([⟨q, b, o⟩] : Mem)[k]? = some f → e.p = f.p → j = k := fun j k e f hj hk _ => by
  have := (List.getElem?_eq_some_iff.mp hj).1
  have := (List.getElem?_eq_some_iff.mp hk).1
  simp only [List.length_cons, List.length_nil] at *
  omega
theorem pflats_len (ts : List Trm) : (pflats ts).length = ts.length := by
  have : ∀ (ts : List Trm) (ps : List (List Stp)), (ts.foldl (fun ps t => ps ++ [t.flat ps]) ps).length = ps.length + ts.length := by
    intro ts
    induction ts with
    | nil => intro ps; rfl
    | cons t ts ih =>
      intro ps
      rw [List.foldl_cons, ih, List.length_append, List.length_cons]
      simp only [List.length_cons, List.length_nil]
      omega
  have := this ts []
  simpa [pflats] using this
theorem snoc_at {α : Type} {ts : List α} {t u : α} {j : Nat} (h : (ts ++ [t])[j]? = some u) : ts[j]? = some u ∨ (j = ts.length ∧ u = t) := by
  rcases Nat.lt_trichotomy j ts.length with z | z | z
  · rw [List.getElem?_append_left z] at h
    exact .inl h
  · subst z
    rw [List.getElem?_append_right (Nat.le_refl _), Nat.sub_self] at h
    exact .inr ⟨rfl, (Option.some.inj h).symm⟩
  · rw [List.getElem?_eq_none (by rw [List.length_append]; simp only [List.length_cons, List.length_nil]; omega)] at h
    cases h
theorem ok_lawProgram (T : Txt K mg) : FnG P w K mg base CX0 8 T.lawProgram.f T.lawProgram.fd ["deck", "n", "words", "many", "most"] (Spec K S_lawProgram) := by
  refine fn_go T.lawProgram.F sc_lawProgram (fun rs M as R ⟨_, _, _, _, _, _, _, h, _⟩ => by rw [h]; rfl) fun cdv A outer s H0 E room gd rs M0 as R t ro => ?_
  obtain ⟨D, C, n, many, most, ks, rfl, rfl, n1, n2, m1, m2, o1, o2, hks, rfl⟩ := t
  have nd := sc_lawProgram.nd
  have room4 : Room 4 _ := room.mono (by decide)
  have room3 : Room 3 _ := room.mono (by decide)
  have room2 : Room 2 _ := room.mono (by decide)
  have room1 : Room 1 _ := room.mono (by decide)
  refine ds_cons (ds_par (i := 5) (j := 6) rfl nd (dax_cons (dx_new (T := fun as => as = []) (dn_lst da_nil fun as h => by rw [h]; decide) fun fo as hf => dax_cons (dx_new (T := fun as => as = []) (dn_lst da_nil fun as h => by rw [h]; decide) fun pp bs hp => dax_nil ⟨_, _, rfl, ?_⟩))))
  subst hf hp
  show DSs _ _ ⟨deckRs D C, ⟨pp, true, .lst []⟩ :: ⟨fo, true, .lst []⟩ :: M0, [some (.at D), some (aI n), some (aL (ks.map .str)), some (aI many), some (aI most), some (.at fo), some (.at pp), none, none, none, none, none, none, none]⟩ _ _
  refine ds_cons (ds_for (fun m item i S => ∃ (ts : List Trm) (y7 y8 y9 : Option Ab), ts.length = i ∧ (∀ j t, ts[j]? = some t → Lim 5 n j ks 3 t) ∧ (∀ f ∈ pflats ts, f.length ≤ most) ∧ S = ⟨deckRs D C, ⟨pp, true, .lst ((flatsD (pflats ts)).map .d)⟩ :: ⟨fo, true, .lst ((ts.map Trm.dat).map .d)⟩ :: M0, [some (.at D), some (aI n), some (aL (ks.map .str)), some (aI many), some (aI most), some (.at fo), some (.at pp), y7, y8, y9, none, none, none, none]⟩) (RI := fun m item => 1 ≤ m ∧ m ≤ many ∧ item = AtR 0)
    (di_range1 (T := fun as => ∃ r : Int, as = [aI r] ∧ 1 ≤ r ∧ r ≤ many) rfl T.n_range (da_consR (de_addW (W := fun r => 0 ≤ r ∧ r < many) (U := fun r => 1 ≤ r ∧ r ≤ many) de_int (de_call (E := E0) (R := Below many) (ok_lawDraw T) room1 gd rfl T.lawDraw.g T.lawDraw.F.kp (b_lawDraw T) pass0 (da_cons (de_var 0 rfl) (da_cons (de_var 3 rfl) da_nil)) fun as h => ⟨D, C, many, rfl, h, by omega, Int.lt_of_le_of_lt (b := 100) (by omega) (by decide), rfl⟩) (fun j h => ⟨by omega, by omega⟩)) da_nil fun y ys ⟨r, h1, h3⟩ h2 => ⟨r, by rw [h1, h2], h3⟩)
      fun as ⟨r, h, r1, r2⟩ => ⟨r, h, by omega, by omega, by omega, by omega, rfl⟩) (dg_name 7 nd) (fun m item _ => ⟨[], none, none, none, rfl, fun _ _ h => by simp at h, fun f h => absurd h List.not_mem_nil, rfl⟩)
    (fun m item i S a ⟨hm1, hm2, hi⟩ hlt ⟨ts, y7, y8, y9, hts, hlim, hfl, e⟩ ia => ?_) (fun m item S ⟨hm1, hm2, hi⟩ ⟨ts, y7, y8, y9, hts, hlim, hfl, e⟩ => ?_) PassesOwn.never rfl)
  · subst hi
    subst ia
    subst e
    rw [Int.zero_add]
    refine ⟨_, rfl, ?_⟩
    show DSs _ _ ⟨deckRs D C, ⟨pp, true, .lst ((flatsD (pflats ts)).map .d)⟩ :: ⟨fo, true, .lst ((ts.map Trm.dat).map .d)⟩ :: M0, [some (.at D), some (aI n), some (aL (ks.map .str)), some (aI many), some (aI most), some (.at fo), some (.at pp), some (aI i), y8, y9, none, none, none, none]⟩ _ _
    refine ds_cons (ds_set 8 (R := IsTerm 5 n i ks 3) (de_call (E := E0) (ok_lawTerm T 3) room gd rfl T.lawTerm.g T.lawTerm.F.kp (b_lawTerm T) pass0 (da_cons (de_var 0 rfl) (da_cons (de_var 1 rfl) (da_cons (de_var 2 rfl) (da_cons (de_var 7 rfl) (da_cons de_int da_nil))))) fun as h => ⟨D, C, rfl, h, n1, n2, by omega, hks, rfl⟩) (fun a ⟨t, ha, ht⟩ => ?_) nd)
    subst ha
    have pl : (pflats ts).length = i := by rw [pflats_len, hts]
    refine ds_cons (ds_set 9 (de_callM (E := E0) (M' := [⟨pp, false, .lst ((flatsD (pflats ts)).map .d)⟩]) (R := Is (aL (stepsD (t.flat (pflats ts))))) (ok_lawFlat T (r := 5) (n := n) (g := i) (ks := ks) (b := 120) (by decide) (by decide) 3 (by decide)) room4 gd rfl T.lawFlat.g T.lawFlat.F.kp (b_lawFlat T) pass0 (da_cons (de_var 8 rfl) (da_cons (de_var 6 rfl) da_nil)) (fun e he => by
      rw [List.mem_singleton.mp he]
      exact ⟨rfl, true, List.mem_cons_self⟩) nd_one fun as h => ⟨pp, pflats ts, t, rfl, h, fun f hf => Nat.le_trans (hfl f hf) (by omega), by omega, ht, rfl⟩) (fun a ha => ?_) nd)
    subst ha
    show DSs _ _ ⟨deckRs D C, ⟨pp, true, .lst ((flatsD (pflats ts)).map .d)⟩ :: ⟨fo, true, .lst ((ts.map Trm.dat).map .d)⟩ :: M0, [some (.at D), some (aI n), some (aL (ks.map .str)), some (aI many), some (aI most), some (.at fo), some (.at pp), some (aI i), some (.d t.dat), some (aL (stepsD (t.flat (pflats ts)))), none, none, none, none]⟩ _ _
    refine ds_cut (fun S' => ∃ t : Trm, Lim 5 n i ks 3 t ∧ (t.flat (pflats ts)).length ≤ most ∧ S' = ⟨deckRs D C, ⟨pp, true, .lst ((flatsD (pflats ts)).map .d)⟩ :: ⟨fo, true, .lst ((ts.map Trm.dat).map .d)⟩ :: M0, [some (.at D), some (aI n), some (aL (ks.map .str)), some (aI many), some (aI most), some (.at fo), some (.at pp), some (aI i), some (.d t.dat), some (aL (stepsD (t.flat (pflats ts)))), none, none, none, none]⟩)
      (ds_if (dt_gt (de_len T.n_len (de_var 9 rfl) (seqs_l _)) (de_var 4 rfl)) (fun _ => ?_) fun h => ds_nil ⟨t, ht, by rw [List.length_map, stepsD_len] at h; have := of_decide_eq_false h.symm; omega, rfl⟩) fun S' ⟨t, ht, hlen, e⟩ => ?_
    · refine ds_cons (ds_set 8 (R := fun a => ∃ d : Dd, a = aT [.str "do", .tuple d.row] ∧ d.Ok n ∧ d.word ∈ ks) (de_tupR (T := fun as => ∃ d : Dd, as = [aS "do", aT d.row] ∧ d.Ok n ∧ d.word ∈ ks) (da_consR de_str (da_consR (T' := fun as => ∃ d : Dd, as = [aT d.row] ∧ d.Ok n ∧ d.word ∈ ks) (de_call (E := E0) (R := IsDeed n ks) (ok_lawDeed T) room3 gd rfl T.lawDeed.g T.lawDeed.F.kp (b_lawDeed T) pass0 (da_cons (de_var 0 rfl) (da_cons (de_var 1 rfl) (da_cons (de_var 2 rfl) da_nil))) fun as h => ⟨D, C, n, ks, rfl, h, n1, n2, hks.1, hks.2.1, hks.2.2, rfl⟩) da_nil
        (fun y ys ⟨d, h1, h3⟩ h2 => ⟨d, by rw [h1, h2], h3⟩)) (fun y ys h1 ⟨d, h2, h3⟩ => ⟨d, by rw [h1, h2], h3⟩)) fun as ⟨d, h, hd⟩ => ⟨by rw [h]; show 2 ≤ 100000; decide, [.str "do", .tuple d.row], h, d, rfl, hd⟩) (fun a ⟨d, ha, hd⟩ => ?_) nd)
      subst ha
      refine ds_one (ds_set 9 (de_lst (ds := stepsD [(d, false)]) (da_cons (de_tup (ds := [.tuple d.row, .bool false]) (da_cons (de_ix (y := aT d.row) (de_var 8 rfl) de_int (seqs_t _) rfl) (da_cons de_bl da_nil))) da_nil)) (fun a ha => ?_) nd)
      subst ha
      exact ⟨.act d, lim_act hd.1 hd.2, by simp only [Trm.flat]; exact o1, by rw [dat_act]; simp only [Trm.flat]; rfl⟩
    subst e
    refine ds_cons (ds_exprX (R := fun S' a => S' = ⟨deckRs D C, ⟨pp, true, .lst ((flatsD (pflats ts)).map .d)⟩ :: ⟨fo, true, .lst (((ts ++ [t]).map Trm.dat).map .d)⟩ :: M0, [some (.at D), some (aI n), some (aL (ks.map .str)), some (aI many), some (aI most), some (.at fo), some (.at pp), some (aI i), some (.d t.dat), some (aL (stepsD (t.flat (pflats ts)))), none, none, none, none]⟩)
      (dx_list (k := 1) (xs := (ts.map Trm.dat).map .d) PySem.F.slot_list_append PySem.F.type_list_append mt_append (de_var 5 rfl) rfl (dax_cons (dx_of (de_var 8 rfl) fun a ha => dax_nil (lm_append (k := 1) rfl (by rw [List.length_map, List.length_map]; omega) (by rw [ha, List.map_append, List.map_append]; rfl))))) fun S' a e => ?_)
    subst e
    refine ds_one (ds_exprX (R := fun S' a => S' = ⟨deckRs D C, ⟨pp, true, .lst ((flatsD (pflats (ts ++ [t]))).map .d)⟩ :: ⟨fo, true, .lst (((ts ++ [t]).map Trm.dat).map .d)⟩ :: M0, [some (.at D), some (aI n), some (aL (ks.map .str)), some (aI many), some (aI most), some (.at fo), some (.at pp), some (aI i), some (.d t.dat), some (aL (stepsD (t.flat (pflats ts)))), none, none, none, none]⟩)
      (dx_list (k := 0) (xs := (flatsD (pflats ts)).map .d) PySem.F.slot_list_append PySem.F.type_list_append mt_append (de_var 6 rfl) rfl (dax_cons (dx_of (de_var 9 rfl) fun a ha => dax_nil (lm_append (k := 0) rfl (by unfold flatsD; rw [List.length_map, List.length_map]; omega) (by rw [ha, pflats_snoc, flatsD_snoc]; rfl))))) fun S' a e => ?_)
    subst e
    refine ⟨ts ++ [t], some (aI i), some (.d t.dat), some (aL (stepsD (t.flat (pflats ts)))), by rw [List.length_append, hts]; rfl, fun j u hu => ?_, fun f hf => ?_, rfl⟩
    · rcases snoc_at hu with h | ⟨h1, h2⟩
      · exact hlim j u h
      · rw [h1, h2, hts]
        exact ht
    · rw [pflats_snoc] at hf
      rcases List.mem_append.mp hf with h | h
      · exact hfl f h
      · rw [List.mem_singleton.mp h]
        exact hlen
  subst hi e
  -- the whole
  have g1 : 1 ≤ ts.length := by omega
  refine ds_cons (ds_setN 10 (T := fun as => as = []) (dn_lst da_nil fun as h => by rw [h]; decide) (fun ow as hw => ?_) nd)
  subst hw
  show DSs _ _ ⟨deckRs D C, ⟨ow, true, .lst []⟩ :: ⟨pp, true, .lst ((flatsD (pflats ts)).map .d)⟩ :: ⟨fo, true, .lst ((ts.map Trm.dat).map .d)⟩ :: M0, [some (.at D), some (aI n), some (aL (ks.map .str)), some (aI many), some (aI most), some (.at fo), some (.at pp), y7, y8, y9, some (.at ow), none, none, none]⟩ _ _
  refine ds_cons (ds_for (fun m item i S => ∃ (os : List Trm) (y11 y12 : Option Ab), os.length = i ∧ (∀ t ∈ os, Lim 11 n ts.length ks 1 t) ∧ S = ⟨deckRs D C, ⟨ow, true, .lst ((os.map Trm.dat).map .d)⟩ :: ⟨pp, true, .lst ((flatsD (pflats ts)).map .d)⟩ :: ⟨fo, true, .lst ((ts.map Trm.dat).map .d)⟩ :: M0, [some (.at D), some (aI n), some (aL (ks.map .str)), some (aI many), some (aI most), some (.at fo), some (.at pp), y7, y8, y9, some (.at ow), y11, y12, none]⟩) (RI := fun m item => m ≤ 11 ∧ item = AtR 0)
    (di_range1 (T := fun as => ∃ r : Int, as = [aI r] ∧ 3 ≤ r ∧ r ≤ 11) rfl T.n_range (da_consR (de_addW (W := fun r => 0 ≤ r ∧ r < 9) (U := fun r => 3 ≤ r ∧ r ≤ 11) de_int (de_call (E := E0) (R := Below 9) (ok_lawDraw T) room1 gd rfl T.lawDraw.g T.lawDraw.F.kp (b_lawDraw T) pass0 (da_cons (de_var 0 rfl) (da_cons de_int da_nil)) fun as h => ⟨D, C, 9, rfl, h, by decide, by decide, rfl⟩) (fun j h => ⟨by omega, by omega⟩)) da_nil fun y ys ⟨r, h1, h3⟩ h2 => ⟨r, by rw [h1, h2], h3⟩)
      fun as ⟨r, h, r1, r2⟩ => ⟨r, h, by omega, by omega, by omega, rfl⟩) (dg_name 11 nd) (fun m item _ => ⟨[], none, none, rfl, fun _ h => absurd h List.not_mem_nil, rfl⟩)
    (fun m item i S a ⟨hm, hi⟩ hlt ⟨os, y11, y12, hos, holim, e⟩ ia => ?_) (fun m item S ⟨hm, hi⟩ ⟨os, y11, y12, hos, holim, e⟩ => ?_) PassesOwn.never rfl)
  · subst hi e
    refine ⟨_, rfl, ?_⟩
    refine ds_cons (ds_set 12 (R := fun a => ∃ p : Nat, a = aT [.str "part", .int p] ∧ p < ts.length) (de_tupR (T := fun as => ∃ p : Nat, as = [aS "part", aI p] ∧ p < ts.length) (da_consR de_str (da_consR (T' := fun as => ∃ p : Nat, as = [aI p] ∧ p < ts.length) (de_call (E := E0) (R := Below ts.length) (ok_lawDraw T) room1 gd rfl T.lawDraw.g T.lawDraw.F.kp (b_lawDraw T) pass0 (da_cons (de_var 0 rfl) (da_cons (de_is (de_len T.n_len (de_var 5 rfl) (seqs_at (List.mem_cons_of_mem _ (List.mem_cons_of_mem _ List.mem_cons_self)))) (by rw [List.length_map, List.length_map])) da_nil)) fun as h => ⟨D, C, ts.length, rfl, h, by omega, Int.lt_of_le_of_lt (b := 100) (by omega) (by decide), rfl⟩) da_nil
      (fun y ys ⟨r, h1, r0, r1⟩ h2 => ⟨r.toNat, by rw [h1, h2]; congr 2; omega, by omega⟩)) (fun y ys h1 ⟨p, h2, h3⟩ => ⟨p, by rw [h1, h2], h3⟩)) fun as ⟨p, h, hp⟩ => ⟨by rw [h]; show 2 ≤ 100000; decide, [.str "part", .int p], h, p, rfl, hp⟩) (fun b ⟨p, hb, hp⟩ => ?_) nd)
    subst hb
    show DSs _ _ ⟨deckRs D C, ⟨ow, true, .lst ((os.map Trm.dat).map .d)⟩ :: ⟨pp, true, .lst ((flatsD (pflats ts)).map .d)⟩ :: ⟨fo, true, .lst ((ts.map Trm.dat).map .d)⟩ :: M0, [some (.at D), some (aI n), some (aL (ks.map .str)), some (aI many), some (aI most), some (.at fo), some (.at pp), y7, y8, y9, some (.at ow), some a, some (aT [.str "part", .int p]), none]⟩ _ _
    refine ds_one (ds_exprX (R := fun S' b => ∃ t : Trm, Lim 11 n ts.length ks 1 t ∧ S' = ⟨deckRs D C, ⟨ow, true, .lst (((os ++ [t]).map Trm.dat).map .d)⟩ :: ⟨pp, true, .lst ((flatsD (pflats ts)).map .d)⟩ :: ⟨fo, true, .lst ((ts.map Trm.dat).map .d)⟩ :: M0, [some (.at D), some (aI n), some (aL (ks.map .str)), some (aI many), some (aI most), some (.at fo), some (.at pp), y7, y8, y9, some (.at ow), some a, some (aT [.str "part", .int p]), none]⟩)
      (dx_list (k := 0) (xs := (os.map Trm.dat).map .d) PySem.F.slot_list_append PySem.F.type_list_append mt_append (de_var 10 rfl) rfl (dax_cons (dx_of (de_call (E := E0) (R := IsTerm 11 n ts.length ks 1) (T := fun as => ∃ ds : List PyData, as = [.at D, aL ds] ∧ ds.length = 5 ∧ ∀ d ∈ ds, ∃ t : Trm, d = t.dat ∧ Lim 11 n ts.length ks 1 t) (ok_lawPick T) room2 gd rfl T.lawPick.g T.lawPick.F.kp (b_lawPick T) pass0
        (da_consR (de_var 0 rfl) (da_consR (de_row (l := 5) (W := fun d => ∃ t : Trm, d = t.dat ∧ Lim 11 n ts.length ks 1 t) (by decide) (da_row (de_var 12 rfl) (fun z h => ⟨_, h, .part p, by rw [dat_part], lim_part hp⟩) (da_row (de_var 12 rfl) (fun z h => ⟨_, h, .part p, by rw [dat_part], lim_part hp⟩)
          (da_row (de_tup (ds := [.str "back", .tuple [.str "part", .int p]]) (da_cons de_str (da_cons (de_var 12 rfl) da_nil))) (fun z h => ⟨_, h, .back (.part p), by rw [dat_back, dat_part], lim_part (r := 11) (n := n) (ks := ks) (h := 0) hp⟩)
          (da_row (de_tup (ds := [.str "times", .tuple [.str "part", .int p], .int 2]) (da_cons de_str (da_cons (de_var 12 rfl) (da_cons de_int da_nil)))) (fun z h => ⟨_, h, .times (.part p) 2, by rw [dat_times, dat_part]; rfl, by decide, lim_part (r := 11) (n := n) (ks := ks) (h := 0) hp⟩)
          (da_row (de_tupR (R := IsTerm 11 n ts.length ks 1) (T := fun as => ∃ d : Dd, as = [aS "do", aT d.row] ∧ d.Ok n ∧ d.word ∈ ks) (da_consR de_str (da_consR (T' := fun as => ∃ d : Dd, as = [aT d.row] ∧ d.Ok n ∧ d.word ∈ ks) (de_call (E := E0) (R := IsDeed n ks) (ok_lawDeed T) room3 gd rfl T.lawDeed.g T.lawDeed.F.kp (b_lawDeed T) pass0 (da_cons (de_var 0 rfl) (da_cons (de_var 1 rfl) (da_cons (de_var 2 rfl) da_nil))) fun as h => ⟨D, C, n, ks, rfl, h, n1, n2, hks.1, hks.2.1, hks.2.2, rfl⟩) da_nil
            (fun y ys ⟨d, h1, h3⟩ h2 => ⟨d, by rw [h1, h2], h3⟩)) (fun y ys h1 ⟨d, h2, h3⟩ => ⟨d, by rw [h1, h2], h3⟩)) fun as ⟨d, h, hd⟩ => ⟨by rw [h]; show 2 ≤ 100000; decide, [.str "do", .tuple d.row], h, .act d, by rw [dat_act], lim_act hd.1 hd.2⟩) (fun z ⟨t, hz, ht⟩ => ⟨t.dat, hz, t, rfl, ht⟩) da_row0)))))) da_nil
          (T' := fun as => ∃ ds : List PyData, as = [aL ds] ∧ ds.length = 5 ∧ ∀ d ∈ ds, ∃ t : Trm, d = t.dat ∧ Lim 11 n ts.length ks 1 t) (fun y ys ⟨ds, h1, h2⟩ h3 => ⟨ds, by rw [h1, h3], h2⟩)) (fun y ys h1 ⟨ds, h2, h3⟩ => ⟨ds, by rw [h1, h2], h3⟩))
        fun as ⟨ds, h, l, hd⟩ => ⟨D, C, ds, rfl, h, fun z => (by rw [z] at l; cases l), by omega, fun d hd' => by
          obtain ⟨t, rfl, ht⟩ := hd d hd'
          exact ⟨t, rfl, ht⟩⟩) fun b ⟨t, hb, ht⟩ => dax_nil (lm_append (k := 0) rfl (by rw [List.length_map, List.length_map]; omega) ⟨t, ht, by rw [hb, List.map_append, List.map_append]; rfl⟩)))) fun S' b ⟨t, ht, e⟩ => ?_)
    subst e
    refine ⟨os ++ [t], some a, some (aT [.str "part", .int p]), by rw [List.length_append, hos]; rfl, fun u hu => ?_, rfl⟩
    rcases List.mem_append.mp hu with h | h
    · exact holim u h
    · rw [List.mem_singleton.mp h]
      exact ht
  subst hi e
  have limw : Lim 11 n ts.length ks 2 (.row os) := ⟨by omega, holim⟩
  refine ds_cons (ds_set 13 (R := Is (.d (Trm.row os).dat)) (de_is (de_tup (ds := [.str "row", .tuple (os.map Trm.dat)]) (da_cons de_str (da_cons (de_tupleOf T.n_tuple (de_var 10 rfl) (seqs_at List.mem_cons_self)) da_nil))) (by rw [dat_row])) (fun a ha => ?_) nd)
  subst ha
  show DSs _ _ ⟨deckRs D C, ⟨ow, true, .lst ((os.map Trm.dat).map .d)⟩ :: ⟨pp, true, .lst ((flatsD (pflats ts)).map .d)⟩ :: ⟨fo, true, .lst ((ts.map Trm.dat).map .d)⟩ :: M0, [some (.at D), some (aI n), some (aL (ks.map .str)), some (aI many), some (aI most), some (.at fo), some (.at pp), y7, y8, y9, some (.at ow), y11, y12, some (.d (Trm.row os).dat)]⟩ _ _
  have ne : ts ≠ [] := fun z => by rw [z] at g1; cases g1
  refine ds_one (ds_ret (R := fun a => ∃ ts : List Trm, a = aT (ts.map Trm.dat) ∧ Prog n ks most ts ∧ ts.length ≤ many + 1) (de_tupleOfS T.n_tuple (de_ifR (R := fun a => (a = aL ((ts ++ [Trm.row os]).map Trm.dat) ∧ ((Trm.row os).flat (pflats ts)).length ≤ most) ∨ a = .at fo) (T := fun c => c = true → ((Trm.row os).flat (pflats ts)).length ≤ most)
    (PW.pt (dw_and (dt_le (de_len T.n_len (de_callM (E := E0) (M' := [⟨pp, false, .lst ((flatsD (pflats ts)).map .d)⟩]) (R := Is (aL (stepsD ((Trm.row os).flat (pflats ts))))) (ok_lawFlat T (r := 11) (n := n) (g := ts.length) (ks := ks) (b := 120) (by decide) (by decide) 2 (by decide)) room3 gd rfl T.lawFlat.g T.lawFlat.F.kp (b_lawFlat T) pass0 (da_cons (de_var 13 rfl) (da_cons (de_var 6 rfl) da_nil)) (fun e he => by
      rw [List.mem_singleton.mp he]
      exact ⟨rfl, true, List.mem_cons_of_mem _ List.mem_cons_self⟩) nd_one fun as h => ⟨pp, pflats ts, .row os, rfl, h, fun f hf => Nat.le_trans (hfl f hf) (by omega), by rw [pflats_len]; exact Nat.le_refl _, limw, rfl⟩) (seqs_l _)) (de_var 4 rfl))
      (fun _ => dw_and1 (T := fun _ => True) (dt_gtW (de_call (E := E0) (R := Below 5) (ok_lawDraw T) room1 gd rfl T.lawDraw.g T.lawDraw.F.kp (b_lawDraw T) pass0 (da_cons (de_var 0 rfl) (da_cons de_int da_nil)) fun as h => ⟨D, C, 5, rfl, h, by decide, by decide, rfl⟩) de_int)) (fun h c _ _ => by rw [List.length_map, stepsD_len] at h; have := of_decide_eq_true h.symm; omega) (fun _ h => nomatch h)))
    (fun h => de_of_dn (dn_cat (de_var 5 rfl) (de_lst (ds := [(Trm.row os).dat]) (da_cons (de_var 13 rfl) da_nil)) (seqM_at (List.mem_cons_of_mem _ (List.mem_cons_of_mem _ List.mem_cons_self))) (seqM_l _) (by rw [List.length_map, List.length_map]; show _ + 1 ≤ _; omega)) fun as ha => ⟨(ts ++ [Trm.row os]).map Trm.dat, by rw [ha, List.map_append, List.map_append]; rfl, .inl ⟨rfl, h rfl⟩⟩)
    (fun _ => de_imp (de_var 5 rfl) fun y h => .inr h)) fun x hx => ?_) fun a ha => ⟨rfl, ha⟩)
  rcases hx with ⟨rfl, hl⟩ | rfl
  · refine ⟨_, (seqM_l _).l, ts ++ [Trm.row os], rfl, ⟨by simp, fun j t hj => ?_, fun f hf => ?_⟩, by rw [List.length_append]; show _ + 1 ≤ _; omega⟩
    · rcases snoc_at hj with h | ⟨h1, h2⟩
      · exact .inl (hlim j t h)
      · rw [h1, h2]
        exact .inr limw
    · rw [pflats_snoc] at hf
      rcases List.mem_append.mp hf with h | h
      · exact hfl f h
      · rw [List.mem_singleton.mp h]
        exact hl
  · exact ⟨ts.map Trm.dat, (seqM_at (List.mem_cons_of_mem _ (List.mem_cons_of_mem _ List.mem_cons_self))).l, ts, rfl, ⟨ne, fun j t hj => .inl (hlim j t hj), hfl⟩, by omega⟩

/-! ### programs read term by term -/
theorem b_isIdle (T : Txt K mg) : Binds K T.isIdle.fd ["term"] [] := T.isIdle.F.binds fun _ _ _ _ _ _ us hl => match us, hl with | [_], _ => rfl
def S_isIdle (rs : Rs) (M : Mem) (as : List Ab) (R : Ab → Prop) : Prop := ∃ t : Trm, as = [.d t.dat] ∧ R = Is (aB t.idle)
theorem ok_isIdle (T : Txt K mg) : FnG P w K mg base CX0 1 T.isIdle.f T.isIdle.fd ["term"] (Spec K S_isIdle) := by
  refine fn_go T.isIdle.F sc_isIdle (fun rs M as R ⟨_, h, _⟩ => by rw [h]; rfl) fun cdv A outer s H0 E room gd rs M as R t ro => ?_
  obtain ⟨t, rfl, rfl⟩ := t
  have no : ∀ (wd : Str) (x : PyData), (wd == ("times" : Str)) = false → DSs (bodyCx P w K mg base N_isIdle "_is_idle" s_isIdle T.isIdle.f cdv A outer s H0 E) rs.F ⟨rs, M, [some (aT [.str wd, x])]⟩ (defBody s_isIdle) ⟨fun S => S.rs = rs ∧ Is (aB false) aN, fun rs2 _ a => rs2 = rs ∧ Is (aB false) a, fun _ => False, fun _ => False⟩ := fun wd x hw =>
    ds_one (ds_ret (R := Is (aB false)) (de_and (T := fun c => c = false) (de_eqS (de_ix (y := aS wd) (de_var 0 rfl) de_int (seqs_t _) rfl) de_str) (fun y h => ⟨_, h, strne rfl hw⟩) (fun h => nomatch h) fun _ => rfl) fun a ha => ⟨rfl, ha⟩)
  cases t with
  | act d =>
    rw [dat_act]
    exact no _ _ rfl
  | part p =>
    rw [dat_part]
    exact no _ _ rfl
  | row ts =>
    rw [dat_row]
    exact no _ _ rfl
  | back t =>
    rw [dat_back]
    exact no _ _ rfl
  | times t k =>
    rw [dat_times]
    refine ds_one (ds_ret (R := Is (aB (decide (k = 0)))) (de_and (T := fun c => c = true) (de_eqS (de_ix (y := aS "times") (de_var 0 rfl) de_int (seqs_t _) rfl) de_str) (fun y h => ⟨_, h, decide_eq_true rfl⟩) (fun _ => de_is (de_and1 (de_eqI (de_ix (y := aI k) (de_var 0 rfl) de_int (seqs_t _) rfl) de_int)) ?_) fun h => nomatch h) fun a ha => ⟨rfl, ha⟩)
    rw [show decide ((k : Int) = 0) = decide (k = 0) by simp]
theorem b_partsIn (T : Txt K mg) : Binds K T.partsIn.fd ["term"] [] := T.partsIn.F.binds fun _ _ _ _ _ _ us hl => match us, hl with | [_], _ => rfl
def S_partsIn (h : Nat) (rs : Rs) (M : Mem) (as : List Ab) (R : Ab → Prop) : Prop := ∃ t : Trm, as = [.d t.dat] ∧ Dep h t ∧ t.parts.length ≤ 100000 ∧ R = Is (aL ((nI t.parts).map .int))
theorem ok_partsIn (T : Txt K mg) : ∀ h : Nat, FnG P w K mg base CX0 (h + 2) T.partsIn.f T.partsIn.fd ["term"] (Spec K (S_partsIn h)) := by
  intro h
  have leaf : ∀ (h : Nat) (cdv : Value) (A : Around) (outer : List Env) (s : Shared) (H0 : Hp) (E : XK) (rs : Rs) (M : Mem) (t : Trm), ((∃ d, t = .act d) ∨ ∃ p, t = .part p) → DSs (bodyCx P w K mg base N_partsIn "_parts_in" s_partsIn T.partsIn.f cdv A outer s H0 E) rs.F ⟨rs, M, startA N_partsIn [.d t.dat]⟩ (defBody s_partsIn) ⟨fun S => S.rs = rs ∧ Is (aL ((nI t.parts).map .int)) aN, fun rs2 _ a => rs2 = rs ∧ Is (aL ((nI t.parts).map .int)) a, fun _ => False, fun _ => False⟩ := by
    intro h cdv A outer s H0 E rs M t ht
    have nd := sc_partsIn.nd
    rcases ht with ⟨d, rfl⟩ | ⟨p, rfl⟩
    · rw [dat_act]
      refine ds_cons (ds_set 1 (de_ix (y := aS "do") (de_var 0 rfl) de_int (seqs_t _) rfl) (fun a ha => ?_) nd)
      subst ha
      show DSs _ _ ⟨rs, M, [some (aT [.str "do", .tuple d.row]), some (aS "do"), none, none]⟩ _ _
      refine ds_cons (ds_if (dt_eqS (de_var 1 rfl) de_str) (fun h => str_no rfl h rfl) fun _ => ds_nil ?_)
      refine ds_cons (ds_if (dt_eqS (de_var 1 rfl) de_str) (fun h => str_no rfl h rfl) fun _ => ds_nil ?_)
      exact ds_cons (ds_if (T := fun c => c = true) (PW.pt (dw_or (V' := fun c => c = true) (U := fun _ => True) (dt_eqS (de_var 1 rfl) de_str) (fun h => by exact str_yes h) (fun _ => rfl) fun h => by exact str_yes h)) (fun _ => ds_one (ds_ret (de_lst (ds := []) da_nil) fun a ha => ⟨rfl, by simp only [Trm.parts]; exact ha⟩)) fun h => nomatch h)
    · rw [dat_part]
      refine ds_cons (ds_set 1 (de_ix (y := aS "part") (de_var 0 rfl) de_int (seqs_t _) rfl) (fun a ha => ?_) nd)
      subst ha
      show DSs _ _ ⟨rs, M, [some (aT [.str "part", .int p]), some (aS "part"), none, none]⟩ _ _
      exact ds_cons (ds_if (dt_eqS (de_var 1 rfl) de_str) (fun _ => ds_one (ds_ret (de_lst (ds := [.int p]) (da_cons (de_ix (y := aI p) (de_var 0 rfl) de_int (seqs_t _) rfl) da_nil)) fun a ha => ⟨rfl, by simp only [Trm.parts]; exact ha⟩)) fun h => str_yes h)
  induction h with
  | zero =>
    refine fn_go T.partsIn.F sc_partsIn (fun rs M as R ⟨_, h, _⟩ => by rw [h]; rfl) fun cdv A outer s H0 E room gd rs M as R t ro => ?_
    obtain ⟨t, rfl, dep, hl, rfl⟩ := t
    cases t with
    | act d => exact leaf 0 cdv A outer s H0 E rs M _ (.inl ⟨d, rfl⟩)
    | part p => exact leaf 0 cdv A outer s H0 E rs M _ (.inr ⟨p, rfl⟩)
    | row ts => exact dep.elim
    | back t => exact dep.elim
    | times t k => exact dep.elim
  | succ h ih =>
    refine fn_go T.partsIn.F sc_partsIn (fun rs M as R ⟨_, h, _⟩ => by rw [h]; rfl) fun cdv A outer s H0 E room gd rs M as R t ro => ?_
    obtain ⟨t, rfl, dep, hl, rfl⟩ := t
    have nd := sc_partsIn.nd
    cases t with
    | act d => exact leaf 0 cdv A outer s H0 E rs M _ (.inl ⟨d, rfl⟩)
    | part p => exact leaf 0 cdv A outer s H0 E rs M _ (.inr ⟨p, rfl⟩)
    | row ts =>
      rw [dat_row]
      simp only [Trm.parts, partss_map] at hl ⊢
      refine ds_cons (ds_set 1 (de_ix (y := aS "row") (de_var 0 rfl) de_int (seqs_t _) rfl) (fun a ha => ?_) nd)
      subst ha
      show DSs _ _ ⟨rs, M, [some (aT [.str "row", .tuple (ts.map Trm.dat)]), some (aS "row"), none, none]⟩ _ _
      refine ds_cons (ds_if (dt_eqS (de_var 1 rfl) de_str) (fun h => str_no rfl h rfl) fun _ => ds_nil ?_)
      refine ds_cons (ds_if (dt_eqS (de_var 1 rfl) de_str) (fun _ => ds_one (ds_ret (R := Is (aL ((nI (ts.map Trm.parts).flatten).map .int))) (de_of_dn (dn_lc2 (own := [("inner", 2), ("part", 3)]) (vs1 := [3]) (U := fun acc => acc = ((nI (ts.map Trm.parts).flatten).map .int).map .d) (fun m item i acc => acc = ((nI ((ts.take i).map Trm.parts).flatten).map .int).map .d) (RI := fun m item => m = ts.length ∧ item = AtD (ts.map Trm.dat))
        (di_tup (de_ix (y := aT (ts.map Trm.dat)) (de_var 0 rfl) de_int (seqs_t _) rfl) fun y h => ⟨_, h, by rw [List.length_map], rfl⟩) rfl nd (blkOk_by (N := N_partsIn) (sc := defScope s_partsIn) (by decide +kernel)) (fun s H C' cl fp => dg_name 2 nd) (fun s H C' cl fp => dg_name 3 nd) (fun _ _ _ => rfl)
        (fun m item i acc a ⟨q1, q2⟩ hlt ha ia => ?_) (fun m item acc ⟨q1, q2⟩ ha => by rw [ha, q1, List.take_length]) (fun i h => by simp at h ⊢; exact .inl h) (fun i h => h) (fun i h => by simp at h ⊢; exact .inr h)) fun as h => ⟨_, h, rfl⟩) fun a ha => ⟨rfl, ha⟩)) fun h => str_yes h)
      subst q1 q2 ha
      obtain ⟨x, hx, rfl⟩ := atD_get ia
      rw [List.getElem?_map] at hx
      match he : ts[i]?, hx with
      | some t, hx =>
        have hx : t.dat = x := Option.some.inj hx
        subst hx
        have mt := List.mem_of_getElem? he
        have lt := parts_flat_len hl mt
        refine ⟨_, fun m item => m = t.parts.length ∧ item = AtD ((nI t.parts).map .int), rfl, fun s H C' cl fp => di_list (de_call (E := E0) (R := Is (aL ((nI t.parts).map .int))) ih room gd rfl T.partsIn.g T.partsIn.F.kp (b_partsIn T) pass0 (da_cons (de_var 2 rfl) da_nil) fun as h => ⟨t, h, dep t mt, lt, rfl⟩) fun y h => ⟨_, h, by unfold nI; rw [List.length_map, List.length_map], rfl⟩, fun n1 item1 ⟨p1, p2⟩ => ?_⟩
        subst p1 p2
        refine ⟨fun j acc => acc = ((nI (((ts.take i).map Trm.parts).flatten ++ t.parts.take j)).map .int).map .d, by show _ = ((nI (_ ++ t.parts.take 0)).map PyData.int).map Ab.d; rw [List.take_zero, List.append_nil], fun j acc' b hj ha ib => ?_, fun acc' ha => ?_⟩
        · subst ha
          obtain ⟨z, hz, rfl⟩ := atD_get ib
          unfold nI at hz
          rw [List.map_map, List.getElem?_map] at hz
          match hp : t.parts[j]?, hz with
          | some p, hz =>
            cases hz
            refine ⟨?_, _, rfl, fun s H C' cl fp => de_imp (de_var 3 rfl) fun u hu => ?_⟩
            · rw [nI_len, List.length_append]
              have h2 := parts_at_len he
              have := List.length_take_le j t.parts
              omega
            · subst hu
              rw [take_snoc hp, ← List.append_assoc]
              unfold nI
              simp
        · rw [ha, List.take_length, take_snoc he, List.map_append, List.flatten_append]
          simp
    | back t =>
      rw [dat_back]
      simp only [Trm.parts] at hl ⊢
      refine ds_cons (ds_set 1 (de_ix (y := aS "back") (de_var 0 rfl) de_int (seqs_t _) rfl) (fun a ha => ?_) nd)
      subst ha
      show DSs _ _ ⟨rs, M, [some (aT [.str "back", t.dat]), some (aS "back"), none, none]⟩ _ _
      refine ds_cons (ds_if (dt_eqS (de_var 1 rfl) de_str) (fun h => str_no rfl h rfl) fun _ => ds_nil ?_)
      refine ds_cons (ds_if (dt_eqS (de_var 1 rfl) de_str) (fun h => str_no rfl h rfl) fun _ => ds_nil ?_)
      refine ds_cons (ds_if (T := fun c => c = false) (PW.pt (dw_or (V' := fun c => c = false) (U := fun c => c = false) (dt_eqS (de_var 1 rfl) de_str) (fun _ => dw_or1 (dt_val (R := Is (aB false)) (by exact de_call (E := E0) (ok_isIdle T) (room.mono (by omega)) gd rfl T.isIdle.g T.isIdle.F.kp (b_isIdle T) pass0 (da_cons (de_var 0 rfl) da_nil) fun as h => ⟨.back t, by rw [h, dat_back], rfl⟩) fun y h => ⟨_, h, rfl⟩)) (fun h => str_no rfl h rfl) fun _ c h => h)) (fun h => nomatch h) fun _ => ds_nil ?_)
      exact ds_one (ds_ret (de_call (E := E0) (R := Is (aL ((nI t.parts).map .int))) ih room gd rfl T.partsIn.g T.partsIn.F.kp (b_partsIn T) pass0 (da_cons (de_ix (y := .d t.dat) (de_var 0 rfl) de_int (seqs_t _) rfl) da_nil) fun as h => ⟨t, h, dep, hl, rfl⟩) fun a ha => ⟨rfl, ha⟩)
    | times t k =>
      rw [dat_times]
      simp only [Trm.parts] at hl ⊢
      refine ds_cons (ds_set 1 (de_ix (y := aS "times") (de_var 0 rfl) de_int (seqs_t _) rfl) (fun a ha => ?_) nd)
      subst ha
      show DSs _ _ ⟨rs, M, [some (aT [.str "times", t.dat, .int k]), some (aS "times"), none, none]⟩ _ _
      refine ds_cons (ds_if (dt_eqS (de_var 1 rfl) de_str) (fun h => str_no rfl h rfl) fun _ => ds_nil ?_)
      refine ds_cons (ds_if (dt_eqS (de_var 1 rfl) de_str) (fun h => str_no rfl h rfl) fun _ => ds_nil ?_)
      refine ds_cons (ds_if (T := fun c => c = decide (k = 0)) (PW.pt (dw_or (V' := fun c => c = decide (k = 0)) (U := fun c => c = decide (k = 0)) (dt_eqS (de_var 1 rfl) de_str) (fun _ => dw_or1 (dt_val (R := Is (aB (decide (k = 0)))) (by exact de_call (E := E0) (ok_isIdle T) (room.mono (by omega)) gd rfl T.isIdle.g T.isIdle.F.kp (b_isIdle T) pass0 (da_cons (de_var 0 rfl) da_nil) fun as h => ⟨.times t k, by rw [h, dat_times], rfl⟩) fun y h => ⟨_, h, rfl⟩)) (fun h => str_no rfl h rfl) fun _ c h => h)) (fun h => ?_) fun h => ds_nil ?_)
      · rw [if_pos (of_decide_eq_true h.symm)]
        exact ds_one (ds_ret (de_lst (ds := []) da_nil) fun a ha => ⟨rfl, ha⟩)
      · have hk := of_decide_eq_false h.symm
        rw [if_neg hk] at hl ⊢
        exact ds_one (ds_ret (de_call (E := E0) (R := Is (aL ((nI t.parts).map .int))) ih room gd rfl T.partsIn.g T.partsIn.F.kp (b_partsIn T) pass0 (da_cons (de_ix (y := .d t.dat) (de_var 0 rfl) de_int (seqs_t _) rfl) da_nil) fun as h => ⟨t, h, dep, hl, rfl⟩) fun a ha => ⟨rfl, ha⟩)

theorem b_usedPlaces (T : Txt K mg) : Binds K T.usedPlaces.fd ["program"] [] := T.usedPlaces.F.binds fun _ _ _ _ _ _ us hl => match us, hl with | [_], _ => rfl
def S_usedPlaces (h : Nat) (rs : Rs) (M : Mem) (as : List Ab) (R : Ab → Prop) : Prop := ∃ ts : List Trm, as = [aT (ts.map Trm.dat)] ∧ ProgOk h ts ∧ R = fun a => ∃ us : List Bool, a = aL (us.map .bool) ∧ Used ts us
theorem ok_usedPlaces (T : Txt K mg) (h : Nat) : FnG P w K mg base CX0 (h + 3) T.usedPlaces.f T.usedPlaces.fd ["program"] (Spec K (S_usedPlaces h)) := by
  refine fn_go T.usedPlaces.F sc_usedPlaces (fun rs M as R ⟨_, h, _⟩ => by rw [h]; rfl) fun cdv A outer s H0 E room gd rs M as R t ro => ?_
  obtain ⟨ts, rfl, hP, rfl⟩ := t
  have nd := sc_usedPlaces.nd
  have hl := hP.len
  have h0 : 0 < ts.length := List.length_pos_iff.mpr hP.ne
  refine ds_cons (ds_setN 1 (T := fun as => as = ((List.replicate ts.length false).map PyData.bool).map .d) (dn_imp (dn_rep (xs := [aB false]) (k := (ts.length : Int)) (de_lst (ds := [.bool false]) (da_cons de_bl da_nil)) (de_is (de_len T.n_len (de_var 0 rfl) (seqs_t _)) (by rw [List.length_map, List.length_map])) (seqM_l _) (Int.le_trans (by decide) (Int.natCast_nonneg _)) (Int.lt_of_le_of_lt (b := 1000) (by omega) (by decide)) (by show 1 * ts.length ≤ _; omega)) fun as h => ?_) (fun q as hq => ?_) nd)
  · rw [h, Int.toNat_natCast, flat_one, List.map_replicate, List.map_replicate]
  subst hq
  show DSs _ _ ⟨rs, ⟨q, true, .lst (((List.replicate ts.length false).map PyData.bool).map .d)⟩ :: M, [some (aT (ts.map Trm.dat)), some (.at q), none, none]⟩ _ _
  refine ds_cons (ds_setItem (k := 0) (j := ts.length - 1) (n := -1) (R := Is (aB true)) de_bl (de_var 1 rfl) (de_neg de_int) rfl ?_ (fun a ha => ?_) (pg_sub (de_var 1 rfl) (de_neg de_int) set_list))
  · rw [List.length_map, List.length_map, List.length_replicate]
    unfold ixN
    have e : ¬ (0 ≤ (-1 : Int)) := by decide
    simp
    omega
  subst ha
  rw [bools_set]
  show DSs _ _ ⟨rs, ⟨q, true, .lst ((((List.replicate ts.length false).set (ts.length - 1) true).map PyData.bool).map .d)⟩ :: M, [some (aT (ts.map Trm.dat)), some (.at q), none, none]⟩ _ _
  have U0 : UsedFrom ts ((List.replicate ts.length false).set (ts.length - 1) true) ts.length := ⟨by rw [List.length_set, List.length_replicate], by rw [List.getElem?_set_self (by rw [List.length_replicate]; omega)], fun j t hj e1 e2 => by
    have := (List.getElem?_eq_some_iff.mp e2).1
    omega⟩
  refine ds_cons (ds_for (fun mm item i S => ∃ us y2 y3, UsedFrom ts us (ts.length - i) ∧ S = ⟨rs, ⟨q, true, .lst ((us.map PyData.bool).map .d)⟩ :: M, [some (aT (ts.map Trm.dat)), some (.at q), y2, y3]⟩) (RI := fun mm item => mm = ts.length ∧ item = fun (i : Nat) y => y = aI ((ts.length : Int) - 1 - i))
    (di_revRange T.n_reversed T.n_range (de_is (de_len T.n_len (de_var 0 rfl) (seqs_t _)) (by rw [List.length_map, List.length_map])) (by omega) ⟨rfl, rfl⟩) (dg_name 2 nd) (fun mm item _ => ⟨_, none, none, U0, rfl⟩) (fun mm item i S a ⟨hm, hi⟩ hlt ⟨us, y2, y3, U, e⟩ ia => ?_) (fun mm item S ⟨hm, hi⟩ ⟨us, y2, y3, U, e⟩ => ?_) PassesOwn.never rfl)
  · subst hm hi e
    subst ia
    have hg : ts.length - 1 - i < ts.length := by omega
    obtain ⟨t, ht⟩ : ∃ t, ts[ts.length - 1 - i]? = some t := ⟨_, List.getElem?_eq_getElem hg⟩
    have eg : ((ts.length : Int) - 1 - i) = ((ts.length - 1 - i : Nat) : Int) := by omega
    obtain ⟨g, eg2⟩ : ∃ g, g = ts.length - 1 - i := ⟨_, rfl⟩
    rw [eg, ← eg2]
    rw [← eg2] at ht hg
    have U : UsedFrom ts us (g + 1) := by rw [show g + 1 = ts.length - i by omega]; exact U
    obtain ⟨b, hb⟩ : ∃ b, us[g]? = some b := ⟨_, List.getElem?_eq_getElem (by rw [U.len]; exact hg)⟩
    have dst : ts.length - (i + 1) = g := by omega
    refine ⟨_, rfl, ?_⟩
    show DSs _ _ ⟨rs, ⟨q, true, .lst ((us.map PyData.bool).map .d)⟩ :: M, [some (aT (ts.map Trm.dat)), some (.at q), some (aI (g : Nat)), y3]⟩ _ _
    refine ds_one (ds_if (T := fun c => c = b) (dt_val (R := Is (aB b)) (by exact de_ix (de_var 1 rfl) (de_var 2 rfl) (seqs_at List.mem_cons_self) (atI_nat (by rw [List.map_map, List.getElem?_map, hb]; rfl))) fun y h => ⟨_, h, rfl⟩) (fun hc => ?_) fun hc => ds_nil ⟨us, _, _, by rw [dst]; exact used_skip (by rw [hb, ← hc]) U, rfl⟩)
    obtain ⟨d1, d2, d3⟩ := hP.all g t ht
    refine ds_one (ds_for (fun m2 item2 j S => ∃ y3, S = ⟨rs, ⟨q, true, .lst (((mark us (t.parts.take j)).map PyData.bool).map .d)⟩ :: M, [some (aT (ts.map Trm.dat)), some (.at q), some (aI (g : Nat)), y3]⟩) (RI := fun m2 item2 => m2 = t.parts.length ∧ item2 = AtD ((nI t.parts).map .int))
      (di_list (de_call (E := E0) (R := Is (aL ((nI t.parts).map .int))) (ok_partsIn T h) room gd rfl T.partsIn.g T.partsIn.F.kp (b_partsIn T) pass0 (da_cons (de_ix (y := .d t.dat) (de_var 0 rfl) (de_var 2 rfl) (seqs_t _) (atI_nat (by rw [List.map_map, List.getElem?_map, ht]; rfl))) da_nil) fun as h => ⟨t, h, d1, d3, rfl⟩) fun y h => ⟨_, h, by unfold nI; rw [List.length_map, List.length_map], rfl⟩) (dg_name 3 nd) (fun m2 item2 _ => ⟨y3, rfl⟩)
      (fun m2 item2 j S b2 ⟨p1, p2⟩ hj ⟨y3, e⟩ ib => ?_) (fun m2 item2 S ⟨p1, p2⟩ ⟨y3, e⟩ => ?_) PassesOwn.never rfl)
    · subst p1 p2 e
      obtain ⟨z, hz, rfl⟩ := atD_get ib
      unfold nI at hz
      rw [List.map_map, List.getElem?_map] at hz
      match hp : t.parts[j]?, hz with
      | some p, hz =>
        cases hz
        have lp := d2 p (List.mem_of_getElem? hp)
        refine ⟨_, rfl, ds_one (ds_setItem (k := 0) (j := p) (R := Is (aB true)) de_bl (de_var 1 rfl) (de_var 3 rfl) rfl (by rw [List.length_map, List.length_map, mark_len, U.len]; exact ixN_nat (by omega)) (fun a ha => ?_) (pg_sub (de_var 1 rfl) (de_var 3 rfl) set_list))⟩
        subst ha
        refine ⟨some (aI (p : Nat)), ?_⟩
        show (⟨_, _, _⟩ : Sta) = _
        rw [bools_set, ← mark_snoc, ← take_snoc hp]
        rfl
    · subst p1 p2 e
      rw [List.take_length]
      exact ⟨_, _, _, by rw [dst]; exact used_mark hP ht U, rfl⟩
  · subst hm hi e
    rw [Nat.sub_self] at U
    exact ds_one (ds_retOwn (i := 1) (k := 0) (ds := us.map .bool) rfl rfl (fun b h => h) ⟨rfl, us, rfl, U.len, U.last, fun j t => U.all j t (Nat.zero_le _)⟩)

theorem b_ofTerm (T : Txt K mg) : Binds K T.ofTerm.fd ["term", "found", "reading"] [] := T.ofTerm.F.binds fun _ _ _ _ _ _ us hl => match us, hl with | [_, _, _], _ => rfl
def S_ofTerm (K : PySem.W.Frag) (C : Addr) (fs : List (Str × Ab)) (val : List Stp → PyData) (ok : List Stp → Prop) (wd : Dd → Prop) (h : Nat) (rs : Rs) (M : Mem) (as : List Ab) (R : Ab → Prop) : Prop := ∃ (q : Addr) (ps : List (List Stp)) (kvs : List (Key × Ab)) (t : Trm), M = [⟨q, false, .dct kvs⟩] ∧ as = [.d t.dat, .at q, aIns K C fs] ∧
  (∀ p ∈ t.parts, valA kvs (.inl (p : Int)) = some (.d (val (ps.getD p [])))) ∧ Good ok wd ps h t ∧ R = Is (.d (val (t.flat ps)))
theorem ok_ofTerm (T : Txt K mg) {k : Nat} {C : Addr} {fs : List (Str × Ab)} {val : List Stp → PyData} {ok : List Stp → Prop} {wd : Dd → Prop} (Y : Rdg P w K mg base k C fs val ok wd) : ∀ h : Nat, FnG P w K mg base CX0 (h + k + 2) T.ofTerm.f T.ofTerm.fd ["term", "found", "reading"] (Spec K (S_ofTerm K C fs val ok wd h)) := by
  obtain ⟨f1, d1, m1, b1, F1⟩ := Y.deed
  obtain ⟨f2, d2, p2, m2, b2, F2⟩ := Y.row
  obtain ⟨f3, d3, p3, m3, b3, F3⟩ := Y.back
  obtain ⟨f4, d4, p4, m4, b4, F4⟩ := Y.times
  have leaf : ∀ (h : Nat) (cdv : Value) (A : Around) (outer : List Env) (s : Shared) (H0 : Hp) (E : XK) (room : Room (k + 1) (A.deeper (envOfC "_of_term" (defScope s_ofTerm) s.heap.objs.size T.ofTerm.f cdv))) (gd : A.guards = some []) (rs : Rs) (q : Addr) (ps : List (List Stp)) (kvs : List (Key × Ab)) (t : Trm), ((∃ d, t = .act d ∧ wd d) ∨ ∃ p, t = .part p ∧ valA kvs (.inl (p : Int)) = some (.d (val (ps.getD p [])))) →
      DSs (bodyCx P w K mg base N_ofTerm "_of_term" s_ofTerm T.ofTerm.f cdv A outer s H0 E) rs.F ⟨rs, [⟨q, false, .dct kvs⟩], startA N_ofTerm [.d t.dat, .at q, aIns K C fs]⟩ (defBody s_ofTerm) ⟨fun S => S.rs = rs ∧ Is (.d (val (t.flat ps))) aN, fun rs2 _ a => rs2 = rs ∧ Is (.d (val (t.flat ps))) a, fun _ => False, fun _ => False⟩ := by
    intro h cdv A outer s H0 E room gd rs q ps kvs t ht
    have nd := sc_ofTerm.nd
    rcases ht with ⟨d, rfl, hd⟩ | ⟨p, rfl, hp⟩
    · rw [dat_act]
      simp only [Trm.flat]
      refine ds_cons (ds_set 3 (de_ix (y := aS "do") (de_var 0 rfl) de_int (seqs_t _) rfl) (fun a ha => ?_) nd)
      subst ha
      show DSs _ _ ⟨rs, [⟨q, false, .dct kvs⟩], [some (aT [.str "do", .tuple d.row]), some (.at q), some (aIns K C fs), some (aS "do"), none]⟩ _ _
      exact ds_cons (ds_if (dt_eqS (de_var 3 rfl) de_str) (fun _ => ds_one (ds_ret (de_meth (E := E0) (R := Is (.d (val [(d, false)]))) Y.cls m1 F1 (room.mono (by omega)) gd b1 pass0 (de_var 2 rfl) Y.n1 (da_cons (de_ix (y := aT d.row) (de_var 0 rfl) de_int (seqs_t _) rfl) da_nil) fun as h => ⟨d, by subst h; rfl, hd, rfl⟩) fun a ha => ⟨rfl, ha⟩)) fun h => str_yes h)
    · rw [dat_part]
      simp only [Trm.flat]
      refine ds_cons (ds_set 3 (de_ix (y := aS "part") (de_var 0 rfl) de_int (seqs_t _) rfl) (fun a ha => ?_) nd)
      subst ha
      show DSs _ _ ⟨rs, [⟨q, false, .dct kvs⟩], [some (aT [.str "part", .int p]), some (.at q), some (aIns K C fs), some (aS "part"), none]⟩ _ _
      refine ds_cons (ds_if (dt_eqS (de_var 3 rfl) de_str) (fun h => str_no rfl h rfl) fun _ => ds_nil ?_)
      exact ds_cons (ds_if (dt_eqS (de_var 3 rfl) de_str) (fun _ => ds_one (ds_ret (de_dget (b := false) (ky := .inl (p : Int)) room.units (de_var 1 rfl) (de_ix (y := aI p) (de_var 0 rfl) de_int (seqs_t _) rfl) List.mem_cons_self hp) fun a ha => ⟨rfl, ha⟩)) fun h => str_yes h)
  have sub1 : ∀ {q : Addr} {kvs : List (Key × Ab)}, ∀ e ∈ ([⟨q, false, .dct kvs⟩] : Mem), e.mu = false ∧ ∃ m, (⟨e.p, m, e.o⟩ : Me) ∈ ([⟨q, false, .dct kvs⟩] : Mem) := fun e he => by
    rw [List.mem_singleton.mp he]
    exact ⟨rfl, false, List.mem_cons_self⟩
  have nd1 : ∀ {q : Addr} {kvs : List (Key × Ab)} (j k : Nat) (e f : Me), ([⟨q, false, .dct kvs⟩] : Mem)[j]? = some e → ([⟨q, false, .dct kvs⟩] : Mem)[k]? = some f → e.p = f.p → j = k := fun j k e f hj hk _ => by
    have := (List.getElem?_eq_some_iff.mp hj).1
    have := (List.getElem?_eq_some_iff.mp hk).1
    simp only [List.length_cons, List.length_nil] at *
    omega
  intro h
  induction h with
  | zero =>
    refine fn_go T.ofTerm.F sc_ofTerm (fun rs M as R ⟨_, _, _, _, _, h, _⟩ => by rw [h]; rfl) fun cdv A outer s H0 E room gd rs M as R t ro => ?_
    obtain ⟨q, ps, kvs, t, rfl, rfl, hp, good, rfl⟩ := t
    cases t with
    | act d => exact leaf 0 cdv A outer s H0 E (room.mono (by omega)) gd rs q ps kvs _ (.inl ⟨d, rfl, good⟩)
    | part p => exact leaf 0 cdv A outer s H0 E (room.mono (by omega)) gd rs q ps kvs _ (.inr ⟨p, rfl, hp p (by simp [Trm.parts])⟩)
    | row ts => exact good.elim
    | back t => exact good.elim
    | times t k => exact good.elim
  | succ h ih =>
    refine fn_go T.ofTerm.F sc_ofTerm (fun rs M as R ⟨_, _, _, _, _, h, _⟩ => by rw [h]; rfl) fun cdv A outer s H0 E room gd rs M as R t ro => ?_
    obtain ⟨q, ps, kvs, t, rfl, rfl, hp, good, rfl⟩ := t
    have nd := sc_ofTerm.nd
    cases t with
    | act d => exact leaf 0 cdv A outer s H0 E (room.mono (by omega)) gd rs q ps kvs _ (.inl ⟨d, rfl, good⟩)
    | part p => exact leaf 0 cdv A outer s H0 E (room.mono (by omega)) gd rs q ps kvs _ (.inr ⟨p, rfl, hp p (by simp [Trm.parts])⟩)
    | row ts =>
      obtain ⟨g1, g2, g3⟩ := good
      rw [dat_row]
      simp only [Trm.flat, flats_map] at g2 ⊢
      simp only [Trm.parts, partss_map] at hp
      refine ds_cons (ds_set 3 (de_ix (y := aS "row") (de_var 0 rfl) de_int (seqs_t _) rfl) (fun a ha => ?_) nd)
      subst ha
      show DSs _ _ ⟨rs, [⟨q, false, .dct kvs⟩], [some (aT [.str "row", .tuple (ts.map Trm.dat)]), some (.at q), some (aIns K C fs), some (aS "row"), none]⟩ _ _
      refine ds_cons (ds_if (dt_eqS (de_var 3 rfl) de_str) (fun h => str_no rfl h rfl) fun _ => ds_nil ?_)
      refine ds_cons (ds_if (dt_eqS (de_var 3 rfl) de_str) (fun h => str_no rfl h rfl) fun _ => ds_nil ?_)
      have e1 : (List.range ts.length).map (fun i => val ((ts.getD i (.part 0)).flat ps)) = (ts.map (Trm.flat ps)).map val := by
        rw [List.map_map]
        exact range_map_get ts _ _ fun i x hx => by rw [List.getD_eq_getElem?_getD, hx]; rfl
      refine ds_cons (ds_if (dt_eqS (de_var 3 rfl) de_str) (fun _ => ds_one (ds_ret (R := Is (.d (val (ts.map (Trm.flat ps)).flatten))) (de_meth (E := E0) Y.cls m2 F2 (room.mono (by omega)) gd b2 pass0 (de_var 2 rfl) Y.n2
        (da_cons (y := aL ((ts.map (Trm.flat ps)).map val)) (de_is (de_lc1 (N := N_ofTerm) (sc := defScope s_ofTerm) 4 (n0 := ts.length) (item0 := AtD (ts.map Trm.dat)) (f := fun i => val ((ts.getD i (.part 0)).flat ps)) (di_tup (de_ix (y := aT (ts.map Trm.dat)) (de_var 0 rfl) de_int (seqs_t _) rfl) fun y hy => ⟨_, hy, by rw [List.length_map], rfl⟩) nd (by decide +kernel) (by omega)
          (fun i a hi ia => fun s H C' cl fp => ?_) (fun s H C' cl fp => dg_name 4 nd)) (by rw [e1])) da_nil) fun as h => ⟨ts.map (Trm.flat ps), by subst h; rfl, by rw [List.length_map]; exact g1, fun l hl => ?_, g2, rfl⟩) fun a ha => ⟨rfl, ha⟩)) fun h => str_yes h)
      · obtain ⟨x, hx, rfl⟩ := atD_get ia
        rw [List.getElem?_map] at hx
        match he : ts[i]?, hx with
        | some t, hx =>
          have hx : t.dat = x := Option.some.inj hx
          subst hx
          have mt := List.mem_of_getElem? he
          rw [List.getD_eq_getElem?_getD, he]
          exact de_callM (E := E0) (M' := [⟨q, false, .dct kvs⟩]) ih (room.mono (by omega)) gd rfl T.ofTerm.g T.ofTerm.F.kp (b_ofTerm T) pass0 (da_cons (de_var 4 rfl) (da_cons (de_var 1 rfl) (da_cons (de_var 2 rfl) da_nil))) sub1 nd1 fun as h => ⟨q, ps, kvs, t, rfl, h, fun p hp2 => hp p (List.mem_flatten.mpr ⟨_, List.mem_map.mpr ⟨t, mt, rfl⟩, hp2⟩), (g3 t mt).2, rfl⟩
      · obtain ⟨t, mt, rfl⟩ := List.mem_map.mp hl
        exact (g3 t mt).1
    | back t =>
      obtain ⟨g1, g2⟩ := good
      rw [dat_back]
      simp only [Trm.flat]
      simp only [Trm.parts] at hp
      refine ds_cons (ds_set 3 (de_ix (y := aS "back") (de_var 0 rfl) de_int (seqs_t _) rfl) (fun a ha => ?_) nd)
      subst ha
      show DSs _ _ ⟨rs, [⟨q, false, .dct kvs⟩], [some (aT [.str "back", t.dat]), some (.at q), some (aIns K C fs), some (aS "back"), none]⟩ _ _
      refine ds_cons (ds_if (dt_eqS (de_var 3 rfl) de_str) (fun h => str_no rfl h rfl) fun _ => ds_nil ?_)
      refine ds_cons (ds_if (dt_eqS (de_var 3 rfl) de_str) (fun h => str_no rfl h rfl) fun _ => ds_nil ?_)
      refine ds_cons (ds_if (dt_eqS (de_var 3 rfl) de_str) (fun h => str_no rfl h rfl) fun _ => ds_nil ?_)
      exact ds_cons (ds_if (dt_eqS (de_var 3 rfl) de_str) (fun _ => ds_one (ds_ret (R := Is (.d (val (turned (t.flat ps))))) (de_meth (E := E0) Y.cls m3 F3 (room.mono (by omega)) gd b3 pass0 (de_var 2 rfl) Y.n3
        (da_cons (y := .d (val (t.flat ps))) (de_callM (E := E0) (M' := [⟨q, false, .dct kvs⟩]) ih (room.mono (by omega)) gd rfl T.ofTerm.g T.ofTerm.F.kp (b_ofTerm T) pass0 (da_cons (de_ix (y := .d t.dat) (de_var 0 rfl) de_int (seqs_t _) rfl) (da_cons (de_var 1 rfl) (da_cons (de_var 2 rfl) da_nil))) sub1 nd1 fun as h => ⟨q, ps, kvs, t, rfl, h, hp, g2, rfl⟩) da_nil) fun as h => ⟨t.flat ps, by subst h; rfl, g1, rfl⟩) fun a ha => ⟨rfl, ha⟩)) fun h => str_yes h)
    | times t kk =>
      rw [dat_times]
      simp only [Trm.flat]
      simp only [Trm.parts] at hp
      refine ds_cons (ds_set 3 (de_ix (y := aS "times") (de_var 0 rfl) de_int (seqs_t _) rfl) (fun a ha => ?_) nd)
      subst ha
      show DSs _ _ ⟨rs, [⟨q, false, .dct kvs⟩], [some (aT [.str "times", t.dat, .int kk]), some (.at q), some (aIns K C fs), some (aS "times"), none]⟩ _ _
      refine ds_cons (ds_if (dt_eqS (de_var 3 rfl) de_str) (fun h => str_no rfl h rfl) fun _ => ds_nil ?_)
      refine ds_cons (ds_if (dt_eqS (de_var 3 rfl) de_str) (fun h => str_no rfl h rfl) fun _ => ds_nil ?_)
      refine ds_cons (ds_if (dt_eqS (de_var 3 rfl) de_str) (fun h => str_no rfl h rfl) fun _ => ds_nil ?_)
      refine ds_cons (ds_if (dt_eqS (de_var 3 rfl) de_str) (fun h => str_no rfl h rfl) fun _ => ds_nil ?_)
      refine ds_cons (ds_if (T := fun c => c = decide (kk = 0)) (dt_val (R := Is (aB (decide (kk = 0)))) (by exact de_call (E := E0) (ok_isIdle T) (room.mono (by omega)) gd rfl T.isIdle.g T.isIdle.F.kp (b_isIdle T) pass0 (da_cons (de_var 0 rfl) da_nil) fun as h => ⟨.times t kk, by rw [h, dat_times], rfl⟩) fun y h => ⟨_, h, rfl⟩) (fun hc => ?_) fun hc => ds_nil ?_)
      · have hk := of_decide_eq_true hc.symm
        subst hk
        have g0 : ok [] := good
        exact ds_one (ds_ret (R := Is (.d (val (List.replicate 0 (t.flat ps)).flatten))) (de_meth (E := E0) Y.cls m2 F2 (room.mono (by omega)) gd b2 pass0 (de_var 2 rfl) Y.n2 (da_cons (y := aL []) (de_lst (ds := []) da_nil) da_nil) fun as h => ⟨[], by subst h; rfl, Nat.zero_le _, fun l hl => absurd hl List.not_mem_nil, g0, rfl⟩) fun a ha => ⟨rfl, ha⟩)
      · have hk := of_decide_eq_false hc.symm
        rw [if_neg hk] at hp
        have good : ok (t.flat ps) ∧ ok ((Trm.times t kk).flat ps) ∧ Good ok wd ps h t := by
          have z : (if kk = 0 then ok [] else ok (t.flat ps) ∧ ok ((Trm.times t kk).flat ps) ∧ Good ok wd ps h t) := good
          rwa [if_neg hk] at z
        obtain ⟨g1, g2, g3⟩ := good
        simp only [Trm.flat] at g2
        exact ds_one (ds_ret (R := Is (.d (val (List.replicate kk (t.flat ps)).flatten))) (de_meth (E := E0) Y.cls m4 F4 (room.mono (by omega)) gd b4 pass0 (de_var 2 rfl) Y.n4
          (da_cons (y := .d (val (t.flat ps))) (de_callM (E := E0) (M' := [⟨q, false, .dct kvs⟩]) ih (room.mono (by omega)) gd rfl T.ofTerm.g T.ofTerm.F.kp (b_ofTerm T) pass0 (da_cons (de_ix (y := .d t.dat) (de_var 0 rfl) de_int (seqs_t _) rfl) (da_cons (de_var 1 rfl) (da_cons (de_var 2 rfl) da_nil))) sub1 nd1 fun as h => ⟨q, ps, kvs, t, rfl, h, hp, g3, rfl⟩)
            (da_cons (de_ix (y := aI kk) (de_var 0 rfl) de_int (seqs_t _) rfl) da_nil)) fun as h => ⟨t.flat ps, kk, by subst h; rfl, hk, g1, g2, rfl⟩) fun a ha => ⟨rfl, ha⟩)

theorem b_folded (T : Txt K mg) : Binds K T.folded.fd ["program", "reading"] [] := T.folded.F.binds fun _ _ _ _ _ _ us hl => match us, hl with | [_, _], _ => rfl
def S_folded (K : PySem.W.Frag) (C : Addr) (fs : List (Str × Ab)) (val : List Stp → PyData) (ok : List Stp → Prop) (wd : Dd → Prop) (h : Nat) (rs : Rs) (M : Mem) (as : List Ab) (R : Ab → Prop) : Prop := ∃ (ts : List Trm), as = [aT (ts.map Trm.dat), aIns K C fs] ∧ ProgOk h ts ∧
  (∀ us, Used ts us → ∀ (j : Nat) (t : Trm), us[j]? = some true → ts[j]? = some t → Good ok wd (pflats ts) h t) ∧ R = Is (.d (val ((pflats ts).getD (ts.length - 1) [])))
theorem ok_folded (T : Txt K mg) {k : Nat} {C : Addr} {fs : List (Str × Ab)} {val : List Stp → PyData} {ok : List Stp → Prop} {wd : Dd → Prop} (Y : Rdg P w K mg base k C fs val ok wd) (h : Nat) : FnG P w K mg base CX0 (h + k + 4) T.folded.f T.folded.fd ["program", "reading"] (Spec K (S_folded K C fs val ok wd h)) := by
  refine fn_go T.folded.F sc_folded (fun rs M as R ⟨_, h, _⟩ => by rw [h]; rfl) fun cdv A outer s H0 E room gd rs M as R t ro => ?_
  obtain ⟨ts, rfl, hP, hG, rfl⟩ := t
  have nd := sc_folded.nd
  have hl := hP.len
  have h0 : 0 < ts.length := List.length_pos_iff.mpr hP.ne
  refine ds_cons (ds_set 2 (R := fun a => ∃ us : List Bool, a = aL (us.map .bool) ∧ Used ts us) (de_call (E := E0) (ok_usedPlaces T h) (room.mono (by omega)) gd rfl T.usedPlaces.g T.usedPlaces.F.kp (b_usedPlaces T) pass0 (da_cons (de_var 0 rfl) da_nil) fun as e => ⟨ts, e, hP, rfl⟩) (fun a ⟨us, ha, U⟩ => ?_) nd)
  subst ha
  show DSs _ _ ⟨rs, M, [some (aT (ts.map Trm.dat)), some (aIns K C fs), some (aL (us.map .bool)), none, none, none]⟩ _ _
  refine ds_cons (ds_setX (R := fun S' a => ∃ q, a = .at q ∧ S' = ⟨rs, ⟨q, true, .dct []⟩ :: M, [some (aT (ts.map Trm.dat)), some (aIns K C fs), some (aL (us.map .bool)), none, none, none]⟩) 3 (dx_dnew fun q => ⟨q, rfl, rfl⟩) (fun S' a ⟨q, ha, e⟩ => ?_) nd)
  subst ha e
  show DSs _ _ ⟨rs, ⟨q, true, .dct []⟩ :: M, [some (aT (ts.map Trm.dat)), some (aIns K C fs), some (aL (us.map .bool)), some (.at q), none, none]⟩ _ _
  have good := hG us U
  refine ds_cons (ds_for (fun mm item i S => ∃ kvs y4 y5, kvs.length ≤ i ∧ (∀ j, j < i → us[j]? = some true → valA kvs (.inl (j : Int)) = some (.d (val ((pflats ts).getD j [])))) ∧ S = ⟨rs, ⟨q, true, .dct kvs⟩ :: M, [some (aT (ts.map Trm.dat)), some (aIns K C fs), some (aL (us.map .bool)), some (.at q), y4, y5]⟩) (RI := fun mm item => mm = ts.length ∧ item = AtE (ts.map Trm.dat))
    (di_enumT rfl T.n_enumerate (da_cons (de_var 0 rfl) da_nil) fun as h => ⟨_, h, by rw [List.length_map], rfl⟩) (dg_tup rfl (dgs_cons 4 (dgs_cons 5 dgs_nil nd) nd)) (fun mm item _ => ⟨[], none, none, Nat.le_refl _, fun j hj => absurd hj (Nat.not_lt_zero _), rfl⟩) (fun mm item i S a ⟨hm, hi⟩ hlt ⟨kvs, y4, y5, kl, inv, e⟩ ia => ?_) (fun mm item S ⟨hm, hi⟩ ⟨kvs, y4, y5, kl, inv, e⟩ => ?_) PassesOwn.never rfl)
  · subst hm hi e
    obtain ⟨x, hx, rfl⟩ := ia
    rw [List.getElem?_map] at hx
    match ht : ts[i]?, hx with
    | some t, hx =>
      have hx : t.dat = x := Option.some.inj hx
      subst hx
      obtain ⟨b, hb⟩ : ∃ b, us[i]? = some b := ⟨_, List.getElem?_eq_getElem (by rw [U.len]; exact hlt)⟩
      refine ⟨_, ⟨_, rfl, rfl, rfl⟩, ?_⟩
      show DSs _ _ ⟨rs, ⟨q, true, .dct kvs⟩ :: M, [some (aT (ts.map Trm.dat)), some (aIns K C fs), some (aL (us.map .bool)), some (.at q), some (aI (i : Nat)), some (.d t.dat)]⟩ _ _
      refine ds_one (ds_if (T := fun c => c = b) (dt_val (R := Is (aB b)) (by exact de_ix (de_var 2 rfl) (de_var 4 rfl) (seqs_l _) (atI_nat (by rw [List.map_map, List.getElem?_map, hb]; rfl))) fun y h => ⟨_, h, rfl⟩) (fun hc => ?_) fun hc => ds_nil ⟨kvs, _, _, by omega, fun j hj hu => ?_, rfl⟩)
      · have hu : us[i]? = some true := by rw [hb, ← hc]
        refine ds_one (ds_dput (k := 0) (ky := .inl (i : Int)) (R := Is (.d (val (t.flat (pflats ts))))) room.units (de_callM (E := E0) (M' := [⟨q, false, .dct kvs⟩]) (ok_ofTerm T Y h) (room.mono (by omega)) gd rfl T.ofTerm.g T.ofTerm.F.kp (b_ofTerm T) pass0 (da_cons (de_var 5 rfl) (da_cons (de_var 3 rfl) (da_cons (de_var 1 rfl) da_nil))) (fun e he => ?_) nd_me fun as e => ⟨q, pflats ts, kvs, t, rfl, e, fun p hp => ?_, good i t hu ht, rfl⟩)
          (de_var 3 rfl) (de_var 4 rfl) rfl (by omega) (fun a ha => ?_))
        · rw [List.mem_singleton.mp he]
          exact ⟨rfl, true, List.mem_cons_self⟩
        · exact inv p ((hP.all i t ht).2.1 p hp) (U.all i t hu ht p hp)
        · subst ha
          refine ⟨_, _, _, Nat.le_trans (putA_len kvs (.inl (i : Int)) (.d (val (t.flat (pflats ts))))) (by omega), fun j hj hu2 => ?_, rfl⟩
          by_cases e : j = i
          · subst e
            rw [valA_put_same, flat_at hP ht]
          · rw [valA_put_ne _ _ fun z => e (by injection z with z; exact Int.ofNat.inj z)]
            exact inv j (by omega) hu2
      · by_cases e : j = i
        · subst e
          rw [hb, ← hc] at hu
          cases hu
        · exact inv j (by omega) hu
  · subst hm hi e
    exact ds_one (ds_ret (de_dget (b := true) (ky := .inl ((ts.length - 1 : Nat) : Int)) room.units (de_var 3 rfl) (de_is (de_sub (de_len T.n_len (de_var 0 rfl) (seqs_t _)) de_int) (by rw [List.length_map, List.length_map]; show aI _ = aI _; congr 1; congr 1; omega)) List.mem_cons_self (inv _ (by omega) U.last)) fun a ha => ⟨rfl, ha⟩)

/-! ### the package's defs -/
theorem b_withWord (T : Txt K mg) : Binds K T.withWord.fd ["state", "place", "word"] [] := T.withWord.F.binds fun _ _ _ _ _ _ us hl => match us, hl with | [_, _, _], _ => rfl
theorem b_changed (T : Txt K mg) : Binds K T.changed.fd ["w", "state", "deed", "sign"] [] := T.changed.F.binds fun _ _ _ _ _ _ us hl => match us, hl with | [_, _, _, _], _ => rfl
theorem b_done (T : Txt K mg) : Binds K T.done.fd ["w", "state", "deed"] [] := T.done.F.binds fun _ _ _ _ _ _ us hl => match us, hl with | [_, _, _], _ => rfl
theorem b_undone (T : Txt K mg) : Binds K T.undone.fd ["w", "state", "deed"] [] := T.undone.F.binds fun _ _ _ _ _ _ us hl => match us, hl with | [_, _, _], _ => rfl
def S_withWord (rs : Rs) (M : Mem) (as : List Ab) (R : Ab → Prop) : Prop := ∃ (ws : List Int) (p : Nat) (x : Int), as = [aT (ws.map .int), aI p, aI x] ∧ p < ws.length ∧ ws.length ≤ 100 ∧ R = Is (aT ((ws.set p x).map .int))
theorem ok_withWord (T : Txt K mg) : FnG P w K mg base CX0 1 T.withWord.f T.withWord.fd ["state", "place", "word"] (Spec K S_withWord) := by
  refine fn_go T.withWord.F sc_withWord (fun rs M as R ⟨_, _, _, h, _⟩ => by rw [h]; rfl) fun cdv A outer s H0 E room gd rs M as R t ro => ?_
  obtain ⟨ws, p, x, rfl, hp, hl, rfl⟩ := t
  have l1 := cutA_length (ws.map PyData.int) none (some (p : Int))
  have l2 := cutA_length (ws.map PyData.int) (some ((p : Int) + 1)) none
  rw [List.length_map] at l1 l2
  refine ds_one (ds_ret (R := Is (aT ((ws.set p x).map .int))) (de_is (de_catT (de_catT (de_slT (de_var 0 rfl) do_none (do_some (de_var 1 rfl))) (de_tup (ds := [.int x]) (da_cons (de_var 2 rfl) da_nil)) (by show _ + 1 ≤ _; omega)) (de_slT (de_var 0 rfl) (do_some (de_add (de_var 1 rfl) de_int)) do_none) (by rw [List.length_append]; show _ + 1 + _ ≤ _; omega)) (congrArg aT ?_)) fun a ha => ⟨rfl, ha⟩)
  rw [cut_to (by rw [List.length_map]; omega), cut_from (by rw [List.length_map]; omega)]
  rw [List.set_eq_take_append_cons_drop, if_pos hp, List.map_append, List.map_cons, List.map_take, List.map_drop, List.append_assoc]
  rfl
def S_changed (rs : Rs) (M : Mem) (as : List Ab) (R : Ab → Prop) : Prop := ∃ (v n : Nat) (s : Int) (ws : List Int) (d : Dd), as = [aI v, aT (ws.map .int), aT d.row, aI s] ∧ ws.length = n ∧ n ≤ 100 ∧ v ≤ 64 ∧ (s = 1 ∨ s = -1) ∧ d.Ok n ∧ InW v ws ∧ R = Is (aI (d.new v s ws))
theorem at_word {ws : List Int} {i : Nat} (h : i < ws.length) : atI ((ws.map PyData.int).map Ab.d) (i : Int) = some (aI (ws.getD i 0)) := atI_nat (by
  rw [List.map_map, List.getElem?_map, List.getElem?_eq_getElem h, List.getD_eq_getElem?_getD, List.getElem?_eq_getElem h]
  rfl)
theorem bitXor_bx {x y : Int} (hx : 0 ≤ x) (hy : 0 ≤ y) : Builtin.bitXor x y = bx x y := Bits.bitXor_pp hx hy
theorem bitAnd_ba {x y : Int} (hx : 0 ≤ x) (hy : 0 ≤ y) : Builtin.bitAnd x y = ba x y := by
  obtain ⟨a, rfl⟩ := Int.eq_ofNat_of_zero_le hx
  obtain ⟨b, rfl⟩ := Int.eq_ofNat_of_zero_le hy
  rfl
theorem ok_changed (T : Txt K mg) : FnG P w K mg base CX0 1 T.changed.f T.changed.fd ["w", "state", "deed", "sign"] (Spec K S_changed) := by
  refine fn_go T.changed.F sc_changed (fun rs M as R ⟨_, _, _, _, _, h, _⟩ => by rw [h]; rfl) fun cdv A outer s' H0 E room gd rs M as R t ro => ?_
  obtain ⟨v, n, s, ws, d, rfl, hn, hn2, hv, hs, hd, hw, rfl⟩ := t
  have nd := sc_changed.nd
  have hpl := d.pl_lt hd
  have sh : CPow 1 (v : Int) := ⟨Int.natCast_nonneg v, by omega, by decide⟩
  have pk : (0 : Int) < 1 * 2 ^ ((v : Int).toNat) := by
    rw [Int.one_mul]
    exact two_pow_pos _
  have ek : (1 : Int) * 2 ^ ((v : Int).toNat) = 2 ^ v := Int.one_mul _
  refine ds_cons (ds_set 4 (R := Is (aS d.word)) (de_is (de_ix (y := aS d.word) (de_var 2 rfl) de_int (seqs_t _) (by cases d <;> rfl)) rfl) (fun a ha => ?_) nd)
  subst ha
  refine ds_cons (ds_set 5 (R := Is (aI (ws.getD d.pl 0))) (de_ix (de_var 1 rfl) (de_ix (y := aI d.pl) (de_var 2 rfl) de_int (seqs_t _) (by cases d <;> rfl)) (seqs_t _) (at_word (by omega))) (fun a ha => ?_) nd)
  subst ha
  show DSs _ _ ⟨rs, M, [some (aI v), some (aT (ws.map .int)), some (aT d.row), some (aI s), some (aS d.word), some (aI (ws.getD d.pl 0))]⟩ _ _
  have no : ∀ {s t : Str} {c : Bool} {Q : Prop}, (s == t) = false → c = decide (s = t) → c = true → Q := fun n h e => by rw [strne h n] at e; cases e
  have yes : ∀ {s : Str} {Q : Prop}, false = decide (s = s) → Q := fun h => by rw [decide_eq_true rfl] at h; cases h
  cases d with
  | xor i j =>
    obtain ⟨h1, h2, h3⟩ := hd
    refine ds_cons (ds_if (dt_eqS (de_var 4 rfl) de_str) (fun _ => ds_one (ds_ret (R := Is (aI (Dd.new v s ws (.xor i j)))) (de_is (de_bxor (de_var 5 rfl) (de_ix (de_var 1 rfl) (de_ix (y := aI j) (de_var 2 rfl) de_int (seqs_t _) rfl) (seqs_t _) (at_word (by omega)))) ?_) fun a ha => ⟨rfl, ha⟩)) fun h => yes h)
    exact congrArg aI (bitXor_bx (hw.get i).1 (hw.get j).1)
  | and i j k =>
    obtain ⟨h1, h2, h3, h4, h5⟩ := hd
    refine ds_cons (ds_if (dt_eqS (de_var 4 rfl) de_str) (fun h => no rfl h rfl) fun _ => ds_nil ?_)
    refine ds_cons (ds_if (dt_eqS (de_var 4 rfl) de_str) (fun _ => ds_one (ds_ret (R := Is (aI (Dd.new v s ws (.and i j k)))) (de_is (de_bxor (de_var 5 rfl) (de_band (de_ix (de_var 1 rfl) (de_ix (y := aI j) (de_var 2 rfl) de_int (seqs_t _) rfl) (seqs_t _) (at_word (by omega))) (de_ix (de_var 1 rfl) (de_ix (y := aI k) (de_var 2 rfl) de_int (seqs_t _) rfl) (seqs_t _) (at_word (by omega))))) ?_) fun a ha => ⟨rfl, ha⟩)) fun h => yes h)
    rw [bitAnd_ba (hw.get j).1 (hw.get k).1]
    exact congrArg aI (bitXor_bx (hw.get i).1 (ba_range (hw.get j) (hw.get k)).1)
  | one i =>
    refine ds_cons (ds_if (dt_eqS (de_var 4 rfl) de_str) (fun h => no rfl h rfl) fun _ => ds_nil ?_)
    refine ds_cons (ds_if (dt_eqS (de_var 4 rfl) de_str) (fun h => no rfl h rfl) fun _ => ds_nil ?_)
    refine ds_cons (ds_if (dt_eqS (de_var 4 rfl) de_str) (fun _ => ds_one (ds_ret (R := Is (aI (Dd.new v s ws (.one i)))) (de_is (de_mod (de_add (de_var 5 rfl) (de_var 3 rfl)) (de_shl de_int (de_var 0 rfl) sh) pk) ?_) fun a ha => ⟨rfl, ha⟩)) fun h => yes h)
    rw [ek]
    rfl
  | add i j =>
    obtain ⟨h1, h2, h3⟩ := hd
    refine ds_cons (ds_if (dt_eqS (de_var 4 rfl) de_str) (fun h => no rfl h rfl) fun _ => ds_nil ?_)
    refine ds_cons (ds_if (dt_eqS (de_var 4 rfl) de_str) (fun h => no rfl h rfl) fun _ => ds_nil ?_)
    refine ds_cons (ds_if (dt_eqS (de_var 4 rfl) de_str) (fun h => no rfl h rfl) fun _ => ds_nil ?_)
    refine ds_one (ds_ret (R := Is (aI (Dd.new v s ws (.add i j)))) (de_is (de_mod (de_add (de_var 5 rfl) (de_mul (de_var 3 rfl) (de_ix (de_var 1 rfl) (de_ix (y := aI j) (de_var 2 rfl) de_int (seqs_t _) rfl) (seqs_t _) (at_word (by omega))) (.inl ?_))) (de_shl de_int (de_var 0 rfl) sh) pk) ?_) fun a ha => ⟨rfl, ha⟩)
    · rcases hs with rfl | rfl <;> exact ⟨by decide, by decide⟩
    · rw [ek]
      rfl
def S_done (sg : Int) (rs : Rs) (M : Mem) (as : List Ab) (R : Ab → Prop) : Prop := ∃ (v n : Nat) (ws : List Int) (d : Dd), as = [aI v, aT (ws.map .int), aT d.row] ∧ ws.length = n ∧ n ≤ 100 ∧ v ≤ 64 ∧ d.Ok n ∧ InW v ws ∧ R = Is (aT ((d.act v sg ws).map .int))
theorem ok_done (T : Txt K mg) : FnG P w K mg base CX0 2 T.done.f T.done.fd ["w", "state", "deed"] (Spec K (S_done 1)) := by
  refine fn_go T.done.F sc_done (fun rs M as R ⟨_, _, _, _, h, _⟩ => by rw [h]; rfl) fun cdv A outer s' H0 E room gd rs M as R t ro => ?_
  obtain ⟨v, n, ws, d, rfl, hn, hn2, hv, hd, hw, rfl⟩ := t
  have hpl := d.pl_lt hd
  exact ds_one (ds_ret (de_call (E := E0) (R := Is (aT ((d.act v 1 ws).map .int))) (ok_withWord T) room gd rfl T.withWord.g T.withWord.F.kp (b_withWord T) pass0 (da_cons (de_var 1 rfl) (da_cons (de_ix (y := aI d.pl) (de_var 2 rfl) de_int (seqs_t _) (by cases d <;> rfl)) (da_cons (de_call (E := E0) (R := Is (aI (d.new v 1 ws))) (ok_changed T) room gd rfl T.changed.g T.changed.F.kp (b_changed T) pass0 (da_cons (de_var 0 rfl) (da_cons (de_var 1 rfl) (da_cons (de_var 2 rfl) (da_cons de_int da_nil))))
    fun as h => ⟨v, n, 1, ws, d, h, hn, hn2, hv, .inl rfl, hd, hw, rfl⟩) da_nil))) fun as h => ⟨ws, d.pl, d.new v 1 ws, h, by omega, by omega, rfl⟩) fun a ha => ⟨rfl, ha⟩)
theorem ok_undone (T : Txt K mg) : FnG P w K mg base CX0 2 T.undone.f T.undone.fd ["w", "state", "deed"] (Spec K (S_done (-1))) := by
  refine fn_go T.undone.F sc_undone (fun rs M as R ⟨_, _, _, _, h, _⟩ => by rw [h]; rfl) fun cdv A outer s' H0 E room gd rs M as R t ro => ?_
  obtain ⟨v, n, ws, d, rfl, hn, hn2, hv, hd, hw, rfl⟩ := t
  have hpl := d.pl_lt hd
  exact ds_one (ds_ret (de_call (E := E0) (R := Is (aT ((d.act v (-1) ws).map .int))) (ok_withWord T) room gd rfl T.withWord.g T.withWord.F.kp (b_withWord T) pass0 (da_cons (de_var 1 rfl) (da_cons (de_ix (y := aI d.pl) (de_var 2 rfl) de_int (seqs_t _) (by cases d <;> rfl)) (da_cons (de_call (E := E0) (R := Is (aI (d.new v (-1) ws))) (ok_changed T) room gd rfl T.changed.g T.changed.F.kp (b_changed T) pass0 (da_cons (de_var 0 rfl) (da_cons (de_var 1 rfl) (da_cons (de_var 2 rfl) (da_cons (de_neg de_int) da_nil))))
    fun as h => ⟨v, n, -1, ws, d, h, hn, hn2, hv, .inr rfl, hd, hw, rfl⟩) da_nil))) fun as h => ⟨ws, d.pl, d.new v (-1) ws, h, by omega, by omega, rfl⟩) fun a ha => ⟨rfl, ha⟩)

/-! ### deeds counted -/
theorem b_tallyOfDeed (T : Txt K mg) : Binds K T.tallyOfDeed.fd ["self", "deed"] [] := T.tallyOfDeed.F.binds fun _ _ _ _ _ _ us hl => match us, hl with | [_, _], _ => rfl
theorem b_tallyOfRow (T : Txt K mg) : Binds K T.tallyOfRow.fd ["self", "numbers"] [] := T.tallyOfRow.F.binds fun _ _ _ _ _ _ us hl => match us, hl with | [_, _], _ => rfl
theorem b_tallyOfBack (T : Txt K mg) : Binds K T.tallyOfBack.fd ["self", "number"] [] := T.tallyOfBack.F.binds fun _ _ _ _ _ _ us hl => match us, hl with | [_, _], _ => rfl
theorem b_tallyOfTimes (T : Txt K mg) : Binds K T.tallyOfTimes.fd ["self", "number", "times"] [] := T.tallyOfTimes.F.binds fun _ _ _ _ _ _ us hl => match us, hl with | [_, _, _], _ => rfl
theorem b_tallyInit (T : Txt K mg) : Binds K T.tallyInit.fd ["self", "kinds", "kept"] [] := T.tallyInit.F.binds fun _ _ _ _ _ _ us hl => match us, hl with | [_, _, _], _ => rfl
theorem ok_tallyInit (T : Txt K mg) : FnG P w K mg base CX0 1 T.tallyInit.f T.tallyInit.fd ["self", "kinds", "kept"] (SpInit T.c_tally.C ["kinds", "kept"]) := by
  refine fun_okG T.tallyInit.F sc_tallyInit (fun vs H Q E ⟨a, dx, us, h, hl, _⟩ => by rw [h, List.length_cons, hl]; rfl) fun cdv A outer s H vs Q E room gd sp => ?_
  obtain ⟨a, dx, us, rfl, hl, ha, q⟩ := sp
  match us, hl with
  | [u1, u2], _ =>
    refine ⟨_, pss_cons (ps_fld (pv 0) (pv 1) rfl) (pss_one (ps_fld (pv 0) (pv 2) rfl)), ?_⟩
    refine ⟨u1, rfl, .ref a, rfl, a, T.c_tally.C, dx, [], rfl, ha, T.c_tally.c, T.na_tally_kinds, by decide, u2, rfl, .ref a, rfl, a, T.c_tally.C, dx, [("kinds", u1)], rfl, upd_same, T.c_tally.c, T.na_tally_kept, (by show 1 < 1000; decide), ?_⟩
    rw [upd_upd]
    exact q
abbrev tallyF (ks : List Str) (L : LF) (ws : List Int) : List (Str × Ab) := [("kinds", aT (ks.map .str)), ("kept", aKept L ws)]
theorem rdg_tally (T : Txt K mg) {ks : List Str} {L : LF} {ws : List Int} {g : Int → Int} {k : Nat} (W : Keeps P w K mg base k L ws g) (kg : KeepG g) : Rdg P w K mg base (k + 2) T.c_tally.C (tallyF ks L ws) (tallyV ks g) (fun _ => True) (fun _ => True) where
  cls := T.c_tally.c
  deed := by
    refine ⟨T.tallyOfDeed.f, T.tallyOfDeed.fd, T.tallyOfDeed.m, b_tallyOfDeed T, FnG.mono (j := 1) ?_ (by omega)⟩
    refine fn_go T.tallyOfDeed.F sc_tallyOfDeed (fun rs M as R ⟨_, h, _⟩ => by rw [h]; rfl) fun cdv A outer s H0 E room gd rs M as R t ro => ?_
    obtain ⟨d, rfl, _, rfl⟩ := t
    have e : cnt ks [(d, false)] = if d.word ∈ ks then 1 else 0 := by
      unfold HW.cnt
      by_cases h : d.word ∈ ks <;> simp [h]
    have e2 : g (cnt ks [(d, false)]) = if d.word ∈ ks then 1 else 0 := by
      rw [e]
      split
      · exact kg.g1
      · exact kg.g0
    refine ds_one (ds_ret (R := Is (.d (tallyV ks g [(d, false)]))) (de_ifR (T := fun c => c = decide (d.word ∈ ks)) (dt_inS (de_ix (y := aS d.word) (de_var 1 rfl) de_int (seqs_t _) (by cases d <;> rfl)) (de_fld T.c_tally.c T.na_tally_kinds (de_var 0 rfl) rfl)) (fun h => de_is de_int ?_) fun h => de_is de_int ?_) fun a ha => ⟨rfl, ha⟩)
    · show aI 1 = aI (g (cnt ks [(d, false)]))
      rw [e2, if_pos (of_decide_eq_true h.symm)]
    · show aI 0 = aI (g (cnt ks [(d, false)]))
      rw [e2, if_neg (of_decide_eq_false h.symm)]
  row := by
    refine ⟨T.tallyOfRow.f, T.tallyOfRow.fd, "numbers", T.tallyOfRow.m, b_tallyOfRow T, FnG.mono (j := k + 2) ?_ (by omega)⟩
    refine fn_go T.tallyOfRow.F sc_tallyOfRow (fun rs M as R ⟨_, h, _⟩ => by rw [h]; rfl) fun cdv A outer s H0 E room gd rs M as R t ro => ?_
    obtain ⟨ls, rfl, _, _, _, rfl⟩ := t
    refine ds_one (ds_ret (R := Is (.d (tallyV ks g ls.flatten))) (de_is (de_kept W T.c_tally.c T.na_tally_kept room gd (de_var 0 rfl) rfl (de_sumL (ns := ls.map fun f => g (cnt ks f)) rfl T.n_sum (de_is (de_var 1 rfl) (by rw [List.map_map]; rfl)))) ?_) fun a ha => ⟨rfl, ha⟩)
    show aI _ = aI _
    have z := (keep_sum kg (ls.map (cnt ks)) fun n hn => by obtain ⟨f, _, rfl⟩ := List.mem_map.mp hn; exact cnt_nn ks f).1
    rw [List.map_map] at z
    rw [cnt_flat, ← z]
    rfl
  back := by
    refine ⟨T.tallyOfBack.f, T.tallyOfBack.fd, "number", T.tallyOfBack.m, b_tallyOfBack T, FnG.mono (j := 1) ?_ (by omega)⟩
    refine fn_go T.tallyOfBack.F sc_tallyOfBack (fun rs M as R ⟨_, h, _⟩ => by rw [h]; rfl) fun cdv A outer s H0 E room gd rs M as R t ro => ?_
    obtain ⟨l, rfl, _, rfl⟩ := t
    exact ds_one (ds_ret (R := Is (.d (tallyV ks g (turned l)))) (de_is (de_var 1 rfl) (by unfold tallyV; rw [cnt_turned])) fun a ha => ⟨rfl, ha⟩)
  times := by
    refine ⟨T.tallyOfTimes.f, T.tallyOfTimes.fd, "number", T.tallyOfTimes.m, b_tallyOfTimes T, FnG.mono (j := k + 2) ?_ (by omega)⟩
    refine fn_go T.tallyOfTimes.F sc_tallyOfTimes (fun rs M as R ⟨_, _, h, _⟩ => by rw [h]; rfl) fun cdv A outer s H0 E room gd rs M as R t ro => ?_
    obtain ⟨l, m, rfl, _, _, _, rfl⟩ := t
    have n0 := cnt_nn ks l
    refine ds_one (ds_ret (R := Is (.d (tallyV ks g (List.replicate m l).flatten))) (de_is (de_kept W T.c_tally.c T.na_tally_kept room gd (de_var 0 rfl) rfl (de_mul (i := g (cnt ks l)) (de_var 1 rfl) (de_var 2 rfl) (.inl ⟨by have := kg.nn _ n0; omega, kg.lt _ n0⟩))) ?_) fun a ha => ⟨rfl, ha⟩)
    show aI _ = aI _
    rw [cnt_rep, kg.mul _ _ n0]
  n1 := rfl
  n2 := rfl
  n3 := rfl
  n4 := rfl

/-! ### steps -/
theorem b_stepsOfDeed (T : Txt K mg) : Binds K T.stepsOfDeed.fd ["self", "deed"] [] := T.stepsOfDeed.F.binds fun _ _ _ _ _ _ us hl => match us, hl with | [_, _], _ => rfl
theorem b_stepsOfRow (T : Txt K mg) : Binds K T.stepsOfRow.fd ["self", "ways"] [] := T.stepsOfRow.F.binds fun _ _ _ _ _ _ us hl => match us, hl with | [_, _], _ => rfl
theorem b_stepsOfBack (T : Txt K mg) : Binds K T.stepsOfBack.fd ["self", "way"] [] := T.stepsOfBack.F.binds fun _ _ _ _ _ _ us hl => match us, hl with | [_, _], _ => rfl
theorem b_stepsOfTimes (T : Txt K mg) : Binds K T.stepsOfTimes.fd ["self", "way", "times"] [] := T.stepsOfTimes.F.binds fun _ _ _ _ _ _ us hl => match us, hl with | [_, _, _], _ => rfl
def StepsOk (f : List Stp) : Prop := f.length ≤ 100000
theorem rdg_steps (T : Txt K mg) : Rdg P w K mg base 1 T.c_steps.C [] stepsV StepsOk (fun _ => True) where
  cls := T.c_steps.c
  deed := by
    refine ⟨T.stepsOfDeed.f, T.stepsOfDeed.fd, T.stepsOfDeed.m, b_stepsOfDeed T, ?_⟩
    refine fn_go T.stepsOfDeed.F sc_stepsOfDeed (fun rs M as R ⟨_, h, _⟩ => by rw [h]; rfl) fun cdv A outer s H0 E room gd rs M as R t ro => ?_
    obtain ⟨d, rfl, _, rfl⟩ := t
    exact ds_one (ds_ret (R := Is (.d (stepsV [(d, false)]))) (de_tup (ds := [.list (stepsD [(d, false)]), .list (stepsD [(d, true)])]) (da_cons (de_lst (ds := stepsD [(d, false)]) (da_cons (de_tup (ds := [.tuple d.row, .bool false]) (da_cons (de_var 1 rfl) (da_cons de_bl da_nil))) da_nil)) (da_cons (de_lst (ds := stepsD [(d, true)]) (da_cons (de_tup (ds := [.tuple d.row, .bool true]) (da_cons (de_var 1 rfl) (da_cons de_bl da_nil))) da_nil)) da_nil))) fun a ha => ⟨rfl, ha⟩)
  row := by
    refine ⟨T.stepsOfRow.f, T.stepsOfRow.fd, "ways", T.stepsOfRow.m, b_stepsOfRow T, ?_⟩
    refine fn_go T.stepsOfRow.F sc_stepsOfRow (fun rs M as R ⟨_, h, _⟩ => by rw [h]; rfl) fun cdv A outer s H0 E room gd rs M as R t ro => ?_
    obtain ⟨ls, rfl, hls, hk, hf, rfl⟩ := t
    have nd := sc_stepsOfRow.nd
    have hf : ls.flatten.length ≤ 100000 := hf
    have cut : ∀ {ls : List (List Stp)} {i j : Nat} {l : List Stp}, ls.flatten.length ≤ 100000 → ls[i]? = some l → ((ls.take i).flatten ++ l.take j).length ≤ 100000 := fun {ls i j l} h1 h2 => by
      have h3 := flat_at_len h2
      rw [List.length_append, List.length_take]
      omega
    refine ds_cons (ds_setLc2 (R := Is (aL (stepsD ls.flatten))) (own := [("way", 3), ("step", 4)]) (vs1 := [4]) 2 (fun m item i acc => acc = (stepsD (ls.take i).flatten).map .d) (RI := fun m item => m = ls.length ∧ item = AtD (ls.map stepsV))
      (di_list (de_var 1 rfl) fun y h => ⟨_, h, by rw [List.length_map], rfl⟩) rfl nd (blkOk_by (N := N_stepsOfRow) (sc := defScope s_stepsOfRow) (by decide +kernel)) (fun s H C' cl fp => dg_name 3 nd) (fun s H C' cl fp => dg_name 4 nd) (fun _ _ _ => rfl)
      (fun m item i acc a ⟨q1, q2⟩ hlt ha ia => ?_) (fun m item acc ⟨q1, q2⟩ ha => ⟨stepsD ls.flatten, by rw [ha, q1, List.take_length], rfl⟩) (fun i h => by simp at h ⊢; exact .inl h) (fun i h => h) (fun i h => by simp at h ⊢; exact .inr h) (fun a ha => ?_))
    · subst q1 q2 ha
      obtain ⟨x, hx, rfl⟩ := atD_get ia
      rw [List.getElem?_map] at hx
      match he : ls[i]?, hx with
      | some l, hx =>
        have hx : stepsV l = x := Option.some.inj hx
        subst hx
        refine ⟨_, fun m item => m = l.length ∧ item = AtD (stepsD l), rfl, fun s H C' cl fp => di_list (R := Is (aL (stepsD l))) (de_ix (de_var 3 rfl) de_int (seqs_t _) rfl) fun y h => ⟨_, h, by rw [stepsD_len], rfl⟩, fun n1 item1 ⟨p1, p2⟩ => ?_⟩
        subst p1 p2
        refine ⟨fun j acc => acc = (stepsD ((ls.take i).flatten ++ l.take j)).map .d, by show _ = (stepsD (_ ++ l.take 0)).map Ab.d; rw [List.take_zero, List.append_nil], fun j acc' b hj ha ib => ?_, fun acc' ha => ?_⟩
        · subst ha
          obtain ⟨z, hz, rfl⟩ := atD_get ib
          unfold stepsD at hz
          rw [List.getElem?_map] at hz
          match hp : l[j]?, hz with
          | some sp, hz =>
            cases hz
            refine ⟨by rw [List.length_map, stepsD_len]; exact cut hf he, _, rfl, fun s H C' cl fp => de_imp (de_var 4 rfl) fun u hu => ?_⟩
            subst hu
            rw [take_snoc hp, ← List.append_assoc, stepsD_append ((ls.take i).flatten ++ l.take j) [sp], List.map_append]
            rfl
        · rw [ha, List.take_length, take_snoc he, List.flatten_append]
          simp
    subst ha
    show DSs _ _ ⟨rs, M, [some (aIns K T.c_steps.C []), some (aL (ls.map stepsV)), some (aL (stepsD ls.flatten)), none, none, none]⟩ _ _
    refine ds_cons (ds_setLc2 (R := Is (aL (stepsD (turned ls.flatten)))) (own := [("way", 3), ("step", 4)]) (vs1 := [4]) 5 (fun m item i acc => acc = (stepsD (((ls.reverse.map turned).take i).flatten)).map .d) (RI := fun m item => m = ls.length ∧ item = AtD (ls.map stepsV).reverse)
      (di_revL T.n_reversed (de_var 1 rfl) ⟨by rw [List.length_map], rfl⟩) rfl nd (blkOk_by (N := N_stepsOfRow) (sc := defScope s_stepsOfRow) (by decide +kernel)) (fun s H C' cl fp => dg_name 3 nd) (fun s H C' cl fp => dg_name 4 nd) (fun _ _ _ => rfl)
      (fun m item i acc a ⟨q1, q2⟩ hlt ha ia => ?_) (fun m item acc ⟨q1, q2⟩ ha => ⟨stepsD (turned ls.flatten), by rw [ha, q1, turned_flat, List.take_of_length_le (by rw [List.length_map, List.length_reverse]; exact Nat.le_refl _)], rfl⟩) (fun i h => by simp at h ⊢; exact .inl h) (fun i h => h) (fun i h => by simp at h ⊢; exact .inr h) (fun a ha => ?_))
    · subst q1 q2 ha
      obtain ⟨x, hx, rfl⟩ := atD_get ia
      rw [← List.map_reverse, List.getElem?_map] at hx
      match he : ls.reverse[i]?, hx with
      | some l, hx =>
        have hx : stepsV l = x := Option.some.inj hx
        subst hx
        have he2 : (ls.reverse.map turned)[i]? = some (turned l) := by rw [List.getElem?_map, he]; rfl
        have hf2 : ((ls.reverse.map turned).flatten).length ≤ 100000 := by rw [← turned_flat, turned_len]; exact hf
        refine ⟨_, fun m item => m = (turned l).length ∧ item = AtD (stepsD (turned l)), rfl, fun s H C' cl fp => di_list (R := Is (aL (stepsD (turned l)))) (de_ix (de_var 3 rfl) de_int (seqs_t _) rfl) fun y h => ⟨_, h, by rw [stepsD_len], rfl⟩, fun n1 item1 ⟨p1, p2⟩ => ?_⟩
        subst p1 p2
        refine ⟨fun j acc => acc = (stepsD (((ls.reverse.map turned).take i).flatten ++ (turned l).take j)).map .d, by show _ = (stepsD (_ ++ (turned l).take 0)).map Ab.d; rw [List.take_zero, List.append_nil], fun j acc' b hj ha ib => ?_, fun acc' ha => ?_⟩
        · subst ha
          obtain ⟨z, hz, rfl⟩ := atD_get ib
          unfold stepsD at hz
          rw [List.getElem?_map] at hz
          match hp : (turned l)[j]?, hz with
          | some sp, hz =>
            cases hz
            refine ⟨by rw [List.length_map, stepsD_len]; exact cut hf2 he2, _, rfl, fun s H C' cl fp => de_imp (de_var 4 rfl) fun u hu => ?_⟩
            subst hu
            rw [take_snoc hp, ← List.append_assoc, stepsD_append (((ls.reverse.map turned).take i).flatten ++ (turned l).take j) [sp], List.map_append]
            rfl
        · rw [ha, List.take_length, take_snoc he2, List.flatten_append]
          simp
    subst ha
    show DSs _ _ ⟨rs, M, [some (aIns K T.c_steps.C []), some (aL (ls.map stepsV)), some (aL (stepsD ls.flatten)), none, none, some (aL (stepsD (turned ls.flatten)))]⟩ _ _
    exact ds_one (ds_ret (de_tup (ds := [.list (stepsD ls.flatten), .list (stepsD (turned ls.flatten))]) (da_cons (de_var 2 rfl) (da_cons (de_var 5 rfl) da_nil))) fun a ha => ⟨rfl, ha⟩)
  back := by
    refine ⟨T.stepsOfBack.f, T.stepsOfBack.fd, "way", T.stepsOfBack.m, b_stepsOfBack T, ?_⟩
    refine fn_go T.stepsOfBack.F sc_stepsOfBack (fun rs M as R ⟨_, h, _⟩ => by rw [h]; rfl) fun cdv A outer s H0 E room gd rs M as R t ro => ?_
    obtain ⟨l, rfl, _, rfl⟩ := t
    have nd := sc_stepsOfBack.nd
    refine ds_cons (ds_asg (R := Is (.d (stepsV l))) (de_var 1 rfl) (dg_tup rfl (dgs_cons 2 (dgs_cons 3 dgs_nil nd) nd)) (fun a ha => ?_))
    subst ha
    refine ⟨_, ⟨_, rfl, rfl, rfl⟩, ?_⟩
    show DSs _ _ ⟨rs, M, [some (aIns K T.c_steps.C []), some (.d (stepsV l)), some (aL (stepsD l)), some (aL (stepsD (turned l)))]⟩ _ _
    exact ds_one (ds_ret (R := Is (.d (stepsV (turned l)))) (de_is (de_tup (ds := [.list (stepsD (turned l)), .list (stepsD l)]) (da_cons (de_var 3 rfl) (da_cons (de_var 2 rfl) da_nil))) (by unfold stepsV; rw [turned_turned])) fun a ha => ⟨rfl, ha⟩)
  times := by
    refine ⟨T.stepsOfTimes.f, T.stepsOfTimes.fd, "way", T.stepsOfTimes.m, b_stepsOfTimes T, ?_⟩
    refine fn_go T.stepsOfTimes.F sc_stepsOfTimes (fun rs M as R ⟨_, _, h, _⟩ => by rw [h]; rfl) fun cdv A outer s H0 E room gd rs M as R t ro => ?_
    obtain ⟨l, m, rfl, hm, _, hf, rfl⟩ := t
    have nd := sc_stepsOfTimes.nd
    have hf : (List.replicate m l).flatten.length ≤ 100000 := hf
    rw [flat_rep_len] at hf
    refine ds_cons (ds_asg (R := Is (.d (stepsV l))) (de_var 1 rfl) (dg_tup rfl (dgs_cons 3 (dgs_cons 4 dgs_nil nd) nd)) (fun a ha => ?_))
    subst ha
    refine ⟨_, ⟨_, rfl, rfl, rfl⟩, ?_⟩
    show DSs _ _ ⟨rs, M, [some (aIns K T.c_steps.C []), some (.d (stepsV l)), some (aI m), some (aL (stepsD l)), some (aL (stepsD (turned l)))]⟩ _ _
    by_cases hl : l = []
    · subst hl
      have e : (List.replicate m ([] : List Stp)).flatten = [] := by simp
      rw [e]
      exact ds_cons (ds_if (T := fun c => c = true) (dt_not (T := fun c => c = false) (dt_imp (dt_lstTrue (ds := stepsD []) (de_var 3 rfl)) fun c h => h) fun c h => by rw [h]; rfl) (fun _ => ds_one (ds_ret (de_var 1 rfl) fun a ha => ⟨rfl, ha⟩)) fun h => nomatch h)
    · have hl1 : 1 ≤ l.length := List.length_pos_iff.mpr hl
      have hmle : m ≤ 100000 := by
        have := Nat.mul_le_mul_left m hl1
        omega
      refine ds_cons (ds_if (T := fun c => c = false) (dt_not (T := fun c => c = true) (dt_imp (dt_lstTrue (ds := stepsD l) (de_var 3 rfl)) fun c h => by rw [h]; cases l with | nil => exact absurd rfl hl | cons s l => rfl) fun c h => by rw [h]; rfl) (fun h => nomatch h) fun _ => ds_nil ?_)
      refine ds_one (ds_ret (R := Is (.d (stepsV (List.replicate m l).flatten))) (de_is (de_tup (ds := [.list (List.replicate m (stepsD l)).flatten, .list (List.replicate m (stepsD (turned l))).flatten]) (da_cons (de_of_dn (R := Is (aL (List.replicate m (stepsD l)).flatten)) (dn_rep (k := (m : Int)) (de_var 3 rfl) (de_var 2 rfl) (seqM_l _) (Int.le_trans (by decide) (Int.natCast_nonneg m)) (Int.lt_of_le_of_lt (b := 100000) (by omega) (by decide)) (by rw [List.length_map, stepsD_len, Int.toNat_natCast, Nat.mul_comm]; exact hf)) fun as h => ⟨(List.replicate m (stepsD l)).flatten, by rw [h, Int.toNat_natCast, List.map_flatten, List.map_replicate], rfl⟩)
        (da_cons (de_of_dn (R := Is (aL (List.replicate m (stepsD (turned l))).flatten)) (dn_rep (k := (m : Int)) (de_var 4 rfl) (de_var 2 rfl) (seqM_l _) (Int.le_trans (by decide) (Int.natCast_nonneg m)) (Int.lt_of_le_of_lt (b := 100000) (by omega) (by decide)) (by rw [List.length_map, stepsD_len, turned_len, Int.toNat_natCast, Nat.mul_comm]; exact hf)) fun as h => ⟨(List.replicate m (stepsD (turned l))).flatten, by rw [h, Int.toNat_natCast, List.map_flatten, List.map_replicate], rfl⟩) da_nil))) ?_) fun a ha => ⟨rfl, ha⟩)
      unfold stepsV
      rw [turned_rep, stepsD_rep, stepsD_rep]
  n1 := rfl
  n2 := rfl
  n3 := rfl
  n4 := rfl

/-! ### deeds counted up to a limit -/
def lamQ : Str := (envOfC "tally_up_to" (defScope s_tallyUpTo) 0 0 .none).qual ++ "<lambda>"
def lamL : LF := lamOf lamQ "number" ["limit"] (defBody s_tallyUpTo)
structure PY (T : Txt K mg) (base : Heap) (TL : TabL) : Prop where
  lam : ∃ c Pt : Addr, FunC K "tally_up_to" "tally_up_to" s_tallyUpTo T.tallyUpTo.f T.tallyUpTo.fd c ∧ LamX.TabB base mg c Pt ∧ (Pt, lamQ) ∈ TL ∧ ∀ p ∈ TL, p.1 = Pt → p.2 = lamQ
  kinds : GlD K mg "KINDS" (.tuple ([("add" : Str), "xor", "and", "one"].map .str))
  steps : GlI mg "MAX_STEPS" 5000
theorem keeps_min (T : Txt K mg) (lim : Int) : Keeps P w K mg base 0 lamL [lim] (minG lim) := by
  refine ⟨NdefX.nscope_by (by decide +kernel), fun _ _ _ _ _ => rfl, fun F f A outer s H n hsc room gd => ?_⟩
  obtain ⟨nm, ql, pr, bd, sc, cl, c⟩ := F
  have hsc : sc = lamL.scope := hsc
  subst hsc
  exact de_min2 rfl T.n_min (de_var 0 rfl) (de_var 1 rfl)
theorem b_tallyUpTo (T : Txt K mg) : Binds K T.tallyUpTo.fd ["program", "kinds", "limit"] [] := T.tallyUpTo.F.binds fun _ _ _ _ _ _ us hl => match us, hl with | [_, _, _], _ => rfl
def S_tallyUpTo (TL : TabL) (h : Nat) (rs : Rs) (M : Mem) (as : List Ab) (R : Ab → Prop) : Prop := ∃ (rs' : Rs) (ts : List Trm) (ks : List Str) (lim : Int), rs = tRs rs' TL ∧ NoTab rs' ∧ as = [aT (ts.map Trm.dat), aT (ks.map .str), aI lim] ∧ ProgOk h ts ∧
  (∀ us, Used ts us → ∀ (j : Nat) (t : Trm), us[j]? = some true → ts[j]? = some t → Good (fun _ => True) (fun _ => True) (pflats ts) h t) ∧ 1 ≤ lim ∧ lim < 2 ^ 64 ∧ R = Is (aI (minG lim (HW.cnt ks ((pflats ts).getD (ts.length - 1) []))))
theorem ok_tallyUpTo (T : Txt K mg) {TL : TabL} (Y : PY T base TL) (h : Nat) : FnG P w K mg base CX0 (h + 7) T.tallyUpTo.f T.tallyUpTo.fd ["program", "kinds", "limit"] (Spec K (S_tallyUpTo TL h)) := by
  obtain ⟨c, Pt, F, tb, mem, one⟩ := Y.lam
  refine fn_goC F sc_tallyUpTo (fun rs M as R ⟨_, _, _, _, _, _, h, _⟩ => by rw [h]; rfl) fun A outer s H0 E room gd rs M as R t ro => ?_
  obtain ⟨rs', ts, ks, lim, rfl, nt, rfl, hP, hG, l1, l2, rfl⟩ := t
  have W : Keeps P w K mg base 0 lamL [lim] (minG lim) := keeps_min T lim
  have Rd := rdg_tally T (ks := ks) W (keep_min l1 l2)
  refine ds_one (ds_ret (de_foldC (i := 2) (y := "limit") (px := "number") (lim := lim) (yp := aT (ts.map Trm.dat)) (yk := aT (ks.map .str)) nt (ok_folded T Rd h) (room.mono (by omega)) gd rfl T.folded.g T.folded.F.kp (b_folded T)
    T.tallyInit.m (ok_tallyInit T) (room.mono (by omega)) rfl T.c_tally.g (b_tallyInit T) tb rfl rfl mem one rfl (by show ∀ y ∈ lamL.scope.names, y.2 = .free → (defScope s_tallyUpTo).names.lookup y.1 = some .cell ∨ (defScope s_tallyUpTo).names.lookup y.1 = some .free; decide +kernel) (fun cells c h => ?_)
    (de_var 0 rfl) (de_var 1 rfl) rfl (by show (defScope s_tallyUpTo).names.lookup ("limit" : Str) = some .cell; decide +kernel) rfl rfl ⟨ts, rfl, hP, hG, rfl⟩ fun a ha => ⟨_, ha⟩) fun a ha => ⟨rfl, ha⟩)
  show cloFrom cells lamL.scope.names [] = _
  have e : lamL.scope.names = [(("number" : Str), NameKind.local), (("limit" : Str), NameKind.free), (("min" : Str), NameKind.globalImplicit)] := by rfl
  rw [e]
  simp [cloFrom, h]

/-! ### programs done -/
theorem cnt_kinds (f : List Stp) : HW.cnt ["add", "xor", "and", "one"] f = f.length := by
  unfold HW.cnt
  have wk : ∀ d : Dd, d.word ∈ ([("add" : Str), "xor", "and", "one"] : List Str) := fun d => by
    cases d
    · exact .head _
    · exact .tail _ (.head _)
    · exact .tail _ (.tail _ (.head _))
    · exact .tail _ (.tail _ (.tail _ (.head _)))
  rw [List.filter_eq_self.mpr fun s _ => decide_eq_true (wk s.1)]
theorem b_run (T : Txt K mg) : Binds K T.run.fd ["n", "w", "program", "state"] [] := T.run.F.binds fun _ _ _ _ _ _ us hl => match us, hl with | [_, _, _, _], _ => rfl
/-- a program whose deeds may be done: what is done at all is short -/
structure RunOk (n h : Nat) (ts : List Trm) (f : List Stp) : Prop where
  prog : ProgOk h ts
  good : ∀ us, Used ts us → ∀ (j : Nat) (t : Trm), us[j]? = some true → ts[j]? = some t → Good (fun _ => True) (fun _ => True) (pflats ts) h t ∧ Good StepsOk (fun _ => True) (pflats ts) h t
  last : (pflats ts).getD (ts.length - 1) [] = f
  few : f.length ≤ 5000
  ok : ∀ s ∈ f, s.1.Ok n
def S_run (TL : TabL) (h : Nat) (rs : Rs) (M : Mem) (as : List Ab) (R : Ab → Prop) : Prop := ∃ (rs' : Rs) (n v : Nat) (ts : List Trm) (ws : List Int) (f : List Stp), rs = tRs rs' TL ∧ NoTab rs' ∧ as = [aI n, aI v, aT (ts.map Trm.dat), aT (ws.map .int)] ∧ RunOk n h ts f ∧ ws.length = n ∧ n ≤ 100 ∧ v ≤ 64 ∧ InW v ws ∧ R = Is (aT ((runS v f ws).map .int))
theorem ok_run (T : Txt K mg) {TL : TabL} (Y : PY T base TL) (h : Nat) : FnG P w K mg base CX0 (h + 8) T.run.f T.run.fd ["n", "w", "program", "state"] (Spec K (S_run TL h)) := by
  refine fn_go T.run.F sc_run (fun rs M as R ⟨_, _, _, _, _, _, _, _, h, _⟩ => by rw [h]; rfl) fun cdv A outer s H0 E room gd rs M as R t ro => ?_
  obtain ⟨rs', n, v, ts, ws, f, rfl, nt, rfl, hR, hn, hn2, hv, hw, rfl⟩ := t
  have nd := sc_run.nd
  have hf := hR.few
  have e1 : minG 5001 (HW.cnt ["add", "xor", "and", "one"] ((pflats ts).getD (ts.length - 1) [])) = (f.length : Int) := by
    rw [hR.last, cnt_kinds]
    exact if_neg (by omega)
  refine ds_cons (ds_if (T := fun c => c = false) (dt_imp (dt_gt (i := (f.length : Int)) (j := 5000) (de_is (de_call (E := E0) (R := Is (aI (minG 5001 (HW.cnt ["add", "xor", "and", "one"] ((pflats ts).getD (ts.length - 1) []))))) (ok_tallyUpTo T Y h) (room.mono (by omega)) gd rfl T.tallyUpTo.g T.tallyUpTo.F.kp (b_tallyUpTo T) pass0 (da_cons (de_var 2 rfl) (da_cons (y := aT ([("add" : Str), "xor", "and", "one"].map .str)) (de_glob rfl Y.kinds) (da_cons (y := aI 5001) (de_is (de_add (i := 5000) (j := 1) (by exact de_globI rfl Y.steps) de_int) rfl) da_nil)))
    fun as h => ⟨rs', ts, ["add", "xor", "and", "one"], 5001, rfl, nt, h, hR.prog, fun us U j t h1 h2 => (hR.good us U j t h1 h2).1, by decide, by decide, rfl⟩) (by rw [e1])) (by exact de_globI rfl Y.steps)) fun c h => h.trans (decide_eq_false (by omega))) (fun h => nomatch h) fun _ => ds_nil ?_)
  refine ds_cons (ds_asg (R := Is (.d (stepsV f))) (de_callF (E := E0) nt (ok_folded T (rdg_steps T) h) (room.mono (by omega)) gd rfl T.folded.g T.folded.F.kp (b_folded T) pass0 (da_cons (de_var 2 rfl) (da_cons (de_make0 T.c0_steps rfl T.c_steps.g) da_nil)) fun as h => ⟨ts, h, hR.prog, fun us U j t h1 h2 => (hR.good us U j t h1 h2).2, by rw [hR.last]⟩) (dg_tup rfl (dgs_cons 4 (dgs_cons 5 dgs_nil nd) nd)) (fun a ha => ?_))
  subst ha
  refine ⟨_, ⟨_, rfl, rfl, rfl⟩, ?_⟩
  show DSs _ _ ⟨tRs rs' TL, M, [some (aI n), some (aI v), some (aT (ts.map Trm.dat)), some (aT (ws.map .int)), some (aL (stepsD f)), some (aL (stepsD (turned f))), none, none]⟩ _ _
  refine ds_cons (ds_for (fun mm item i S => ∃ y6 y7, S = ⟨tRs rs' TL, M, [some (aI n), some (aI v), some (aT (ts.map Trm.dat)), some (aT ((runS v (f.take i) ws).map .int)), some (aL (stepsD f)), some (aL (stepsD (turned f))), y6, y7]⟩) (RI := fun mm item => mm = f.length ∧ item = AtD (stepsD f))
    (di_list (de_var 4 rfl) fun y h => ⟨_, h, by rw [stepsD_len], rfl⟩) (dg_tup rfl (dgs_cons 6 (dgs_cons 7 dgs_nil nd) nd)) (fun mm item _ => ⟨none, none, rfl⟩) (fun mm item i S a ⟨hm, hi⟩ hlt ⟨y6, y7, e⟩ ia => ?_) (fun mm item S ⟨hm, hi⟩ ⟨y6, y7, e⟩ => ?_) PassesOwn.never rfl)
  · subst hm hi e
    obtain ⟨x, hx, rfl⟩ := atD_get ia
    unfold stepsD at hx
    rw [List.getElem?_map] at hx
    match he : f[i]?, hx with
    | some (d, b), hx =>
      have hx : Stp.dat (d, b) = x := Option.some.inj hx
      subst hx
      have hd := hR.ok _ (List.mem_of_getElem? he)
      have hl : (runS v (f.take i) ws).length = n := (runS_len v _ ws).trans hn
      have hw2 := runS_inW v (f.take i) ws hw
      refine ⟨_, ⟨_, rfl, rfl, rfl⟩, ?_⟩
      show DSs _ _ ⟨tRs rs' TL, M, [some (aI n), some (aI v), some (aT (ts.map Trm.dat)), some (aT ((runS v (f.take i) ws).map .int)), some (aL (stepsD f)), some (aL (stepsD (turned f))), some (aT d.row), some (aB b)]⟩ _ _
      refine ds_one (ds_set 3 (R := Is (aT ((runS v (f.take (i + 1)) ws).map .int))) (de_ifR (T := fun c => c = b) (dt_val (R := Is (aB b)) (de_var 7 rfl) fun y h => ⟨_, h, rfl⟩)
        (fun hb => by exact de_is (de_callF (E := E0) (R := Is (aT ((d.act v (-1) (runS v (f.take i) ws)).map .int))) nt (ok_undone T) (room.mono (by omega)) gd rfl T.undone.g T.undone.F.kp (b_undone T) pass0 (da_cons (de_var 1 rfl) (da_cons (de_var 3 rfl) (da_cons (de_var 6 rfl) da_nil))) fun as h => ⟨v, n, runS v (f.take i) ws, d, h, hl, hn2, hv, hd, hw2, rfl⟩) (by rw [take_snoc he, runS_snoc, ← hb]; rfl))
        (fun hb => by exact de_is (de_callF (E := E0) (R := Is (aT ((d.act v 1 (runS v (f.take i) ws)).map .int))) nt (ok_done T) (room.mono (by omega)) gd rfl T.done.g T.done.F.kp (b_done T) pass0 (da_cons (de_var 1 rfl) (da_cons (de_var 3 rfl) (da_cons (de_var 6 rfl) da_nil))) fun as h => ⟨v, n, runS v (f.take i) ws, d, h, hl, hn2, hv, hd, hw2, rfl⟩) (by rw [take_snoc he, runS_snoc, ← hb]; rfl))) (fun a ha => ?_) nd)
      subst ha
      exact ⟨_, _, rfl⟩
  · subst hm hi e
    rw [List.take_length]
    exact ds_one (ds_ret (de_var 3 rfl) fun a ha => ⟨rfl, ha⟩)

/-! ### the law's own look at bits -/
theorem b_lawShared (T : Txt K mg) : Binds K T.lawShared.fd ["w", "one", "other"] [] := T.lawShared.F.binds fun _ _ _ _ _ _ us hl => match us, hl with | [_, _, _], _ => rfl
def S_lawShared (rs : Rs) (M : Mem) (as : List Ab) (R : Ab → Prop) : Prop := ∃ (v n : Nat) (ws us : List Int), as = [aI v, aT (ws.map .int), aT (us.map .int)] ∧ ws.length = n ∧ us.length = n ∧ n ≤ 100 ∧ v ≤ 64 ∧ R = fun a => ∃ k : Nat, a = aI k ∧ Alike v ws us k
def ones (k : Nat) (ws us : List Int) (i : Nat) : List Int := ((List.range i).filter (dif k ws us)).map fun _ => 1
theorem ok_lawShared (T : Txt K mg) : FnG P w K mg base CX0 1 T.lawShared.f T.lawShared.fd ["w", "one", "other"] (Spec K S_lawShared) := by
  refine fn_go T.lawShared.F sc_lawShared (fun rs M as R ⟨_, _, _, _, h, _⟩ => by rw [h]; rfl) fun cdv A outer s H0 E room gd rs M as R t ro => ?_
  obtain ⟨v, n, ws, us, rfl, h1, h2, hn, hv, rfl⟩ := t
  have nd := sc_lawShared.nd
  refine ds_cons (ds_set 3 de_int (fun a ha => ?_) nd)
  subst ha
  show DSs _ _ ⟨rs, M, [some (aI v), some (aT (ws.map .int)), some (aT (us.map .int)), some (aI (0 : Nat)), none, none]⟩ _ _
  have low0 : lowL 0 ws = lowL 0 us := (dif_low h1 h2).mpr fun i hi => by
    unfold dif
    rw [Int.pow_zero, Int.emod_one]
    rfl
  refine ds_cons (ds_while (fun m S => ∃ k : Nat, m = v - k ∧ k ≤ v ∧ lowL k ws = lowL k us ∧ S = ⟨rs, M, [some (aI v), some (aT (ws.map .int)), some (aT (us.map .int)), some (aI k), none, none]⟩) v ⟨0, by omega, Nat.zero_le _, low0, rfl⟩ (fun m S ⟨k, hm, hk, hlow, e⟩ => ?_) PassesOwn.never)
  subst e
  refine ⟨fun c => c = decide (k < v ∧ lowL (k + 1) ws = lowL (k + 1) us), PW.pt (dw_and (T := fun c => c = decide (k < v)) (U := fun c => c = PyData.eqv (.list ((ones (k + 1) ws us n).map .int)) (.list [])) (dt_imp (dt_lt (i := (k : Int)) (j := (v : Int)) (de_var 3 rfl) (de_var 0 rfl)) fun c h => h.trans (by simp)) (fun hkv => dw_and1 ?_) (fun hkv c hc => ?_) fun hkv => ?_), fun h => ?_, fun h => ?_⟩
  · have hkv' : k < v := of_decide_eq_true hkv.symm
    refine dt_eqD room.units (de_of_dn (R := Is (aL ((ones (k + 1) ws us n).map .int))) (dn_lc (own := [("x", 4), ("y", 5)]) (U := fun acc => acc = ((ones (k + 1) ws us n).map .int).map .d) (fun m item i acc => acc = ((ones (k + 1) ws us i).map .int).map .d) (RI := fun m item => m = n ∧ item = AtZ (ws.map .int) (us.map .int))
      (di_zip rfl T.n_zip (da_cons (de_var 1 rfl) (da_cons (de_var 2 rfl) da_nil)) fun as h => ⟨_, _, .inl h, by rw [List.length_map, List.length_map, h1, h2, Nat.min_self], rfl⟩) rfl nd (blkOk_by (N := N_lawShared) (sc := defScope s_lawShared) (by decide +kernel)) (fun s H C' cl fp => dg_tup rfl (dgs_cons 4 (dgs_cons 5 dgs_nil nd) nd)) (fun _ _ _ => rfl)
      (fun m item i acc a ⟨q1, q2⟩ hlt ha ia => ?_) (fun m item acc ⟨q1, q2⟩ ha => by rw [ha, q1]) (fun i h => h)) fun as h => ⟨_, h, rfl⟩) (de_lst (ds := []) da_nil) (view_d _) (view_d _) (shaped_ints _) rfl
    subst q1 q2 ha
    obtain ⟨p, q, hx, hy, rfl⟩ := atZ_ints ia
    have e1 : ws.getD i 0 = p := by rw [List.getD_eq_getElem?_getD, hx]; rfl
    have e2 : us.getD i 0 = q := by rw [List.getD_eq_getElem?_getD, hy]; rfl
    have e3 : dif (k + 1) ws us i = !decide ((p - q) % 2 ^ (k + 1) = 0) := by unfold dif; rw [e1, e2]
    have snoc : ones (k + 1) ws us (i + 1) = ones (k + 1) ws us i ++ (if dif (k + 1) ws us i = true then [1] else []) := by
      unfold ones
      rw [List.range_succ, List.filter_append, List.map_append]
      congr 1
      cases q : dif (k + 1) ws us i <;> simp [List.filter_cons, q]
    refine ⟨?_, _, fun b => b = dif (k + 1) ws us i, ⟨_, rfl, rfl, rfl⟩, fun s H C' cl fp => dts_one (dt_imp (dt_neI (i := (p - q) % 2 ^ (k + 1)) (j := 0) (de_mod (de_intOf T.n_int (de_sub (de_var 4 rfl) (de_var 5 rfl))) (de_is (de_shl (i := 1) (j := ((k + 1 : Nat) : Int)) de_int (de_is (de_add (i := (k : Int)) (j := 1) (de_var 3 rfl) de_int) rfl) (cpw (by omega))) (by rw [one_shl])) (two_pow_pos _)) de_int) fun c h => h.trans e3.symm), fun hb => fun s H C' cl fp => de_imp de_int fun u hu => ?_, fun hb => ?_⟩
    · rw [List.length_map, List.length_map]
      unfold ones
      rw [List.length_map]
      have := List.length_filter_le (dif (k + 1) ws us) (List.range i)
      rw [List.length_range] at this
      omega
    · subst hu
      rw [snoc, if_pos hb.symm, List.map_append, List.map_append]
      rfl
    · rw [snoc, if_neg (by rw [← hb]; decide), List.append_nil]
  · have hkv' : k < v := of_decide_eq_true hkv.symm
    have e : PyData.eqv (.list ((ones (k + 1) ws us n).map .int)) (.list []) = decide (lowL (k + 1) ws = lowL (k + 1) us) := by
      rw [eqv_nil]
      unfold ones
      rw [Bool.eq_iff_iff, List.isEmpty_iff, List.map_eq_nil_iff, List.filter_eq_nil_iff, decide_eq_true_eq, dif_low h1 h2]
      exact ⟨fun z i hi => by simpa using z i (List.mem_range.mpr hi), fun z i hi => by rw [z i (List.mem_range.mp hi)]; decide⟩
    rw [hc, e]
    simp [hkv']
  · have hkv' : ¬ k < v := of_decide_eq_false hkv.symm
    exact (decide_eq_false fun z => hkv' z.1).symm
  · have z := of_decide_eq_true h.symm
    refine ds_one (ds_set 3 (de_add (i := (k : Int)) (j := 1) (de_var 3 rfl) de_int) (fun a ha => ?_) nd)
    subst ha
    exact ⟨v - (k + 1), by omega, k + 1, rfl, by omega, z.2, rfl⟩
  · have z := of_decide_eq_false h.symm
    exact ds_one (ds_ret (de_var 3 rfl) fun a ha => ⟨rfl, k, ha, hk, hlow, fun h e => z ⟨h, e⟩⟩)

theorem b_lawNear (T : Txt K mg) : Binds K T.lawNear.fd ["deck", "state", "w"] [] := T.lawNear.F.binds fun _ _ _ _ _ _ us hl => match us, hl with | [_, _, _], _ => rfl
def S_lawNear (rs : Rs) (M : Mem) (as : List Ab) (R : Ab → Prop) : Prop := ∃ (D C : Addr) (n v : Nat) (ws : List Int), rs = deckRs D C ∧ as = [.at D, aT (ws.map .int), aI v] ∧ ws.length = n ∧ n ≤ 100 ∧ 1 ≤ v ∧ v ≤ 64 ∧ R = IsState n v
theorem ok_lawNear (T : Txt K mg) : FnG P w K mg base CX0 3 T.lawNear.f T.lawNear.fd ["deck", "state", "w"] (Spec K S_lawNear) := by
  refine fn_go T.lawNear.F sc_lawNear (fun rs M as R ⟨_, _, _, _, _, _, h, _⟩ => by rw [h]; rfl) fun cdv A outer s H0 E room gd rs M as R t ro => ?_
  obtain ⟨D, C, n, v, ws, rfl, rfl, hn, hn2, v1, v2, rfl⟩ := t
  have nd := sc_lawNear.nd
  have vb : ((v : Int) + 1) < 2 ^ 1000 := Int.lt_trans (b := 2 ^ 10) (by omega) (by decide)
  refine ds_cons (ds_set 3 (R := fun a => ∃ l : Nat, a = aI l ∧ l ≤ v) (de_imp (de_call (E := E0) (R := Below ((v : Int) + 1)) (ok_lawDraw T) (room.mono (by decide)) gd rfl T.lawDraw.g T.lawDraw.F.kp (b_lawDraw T) pass0 (da_cons (de_var 0 rfl) (da_cons (de_add (i := (v : Int)) (j := 1) (de_var 2 rfl) de_int) da_nil)) fun as h => ⟨D, C, _, rfl, h, by omega, vb, rfl⟩) fun a ⟨r, e, r0, r1⟩ => ⟨r.toNat, by rw [e]; congr 2; omega, by omega⟩) (fun a ⟨l, ha, hl⟩ => ?_) nd)
  subst ha
  show DSs _ _ ⟨deckRs D C, M, [some (.at D), some (aT (ws.map .int)), some (aI v), some (aI l), none, none]⟩ _ _
  refine ds_cons (ds_setLc (R := fun a => ∃ us : List Int, a = aL (us.map .int) ∧ us.length = n ∧ InW v us) (own := [("word", 5)]) 4 (fun m item i acc => ∃ us : List Int, acc = (us.map .int).map .d ∧ us.length = i ∧ InW v us) (RI := fun m item => m = n ∧ item = AtD (ws.map .int)) (di_tup (de_var 1 rfl) fun y hy => ⟨_, hy, by rw [List.length_map, hn], rfl⟩) rfl nd (blkOk_by (N := N_lawNear) (sc := defScope s_lawNear) (by decide +kernel)) (fun s H C' cl fp => dg_name 5 nd) (fun _ _ _ => ⟨[], rfl, rfl, fun _ h => absurd h List.not_mem_nil⟩)
    (fun m item i acc a ⟨q1, q2⟩ hlt ⟨us, ha, hu1, hu2⟩ ia => ?_) (fun m item acc ⟨q1, q2⟩ ⟨us, ha, hu1, hu2⟩ => ⟨us.map .int, ha, us, rfl, hu1.trans q1, hu2⟩) (fun i h => h) (fun a ⟨us, ha, hu1, hu2⟩ => ?_))
  · subst q1 q2 ha
    obtain ⟨x, hx, rfl⟩ := atD_ints ia
    refine ⟨by rw [List.length_map, List.length_map]; omega, _, fun b => b = true, rfl, fun s H C' cl fp => dts_nil, fun _ => fun s H C' cl fp => ?_, fun h => nomatch h⟩
    refine de_imp (de_addW (i := x % 2 ^ l) (W := fun j => ∃ y : Int, j = y / 2 ^ l * 2 ^ l ∧ 0 ≤ y ∧ y < 2 ^ v) (U := fun j => 0 ≤ j ∧ j < 2 ^ v) (de_mod (de_intOf T.n_int (de_var 5 rfl)) (de_is (de_shl (i := 1) (j := (l : Int)) de_int (de_var 3 rfl) (cpw (by omega))) (by rw [one_shl])) (two_pow_pos l))
      (de_mulWP (j := 2 ^ l) (W := fun j => ∃ y : Int, j = y / 2 ^ l ∧ 0 ≤ y ∧ y < 2 ^ v) (de_divWP (j := 2 ^ l) (W := fun y => 0 ≤ y ∧ y < 2 ^ v) (de_intOfW T.n_int (de_call (E := E0) (R := Below (2 ^ v)) (ok_lawWord T) (room.mono (by decide)) gd rfl T.lawWord.g T.lawWord.F.kp (b_lawWord T) pass0 (da_cons (de_var 0 rfl) (da_cons (de_var 2 rfl) da_nil)) fun as h => ⟨D, C, v, rfl, h, v1, v2, rfl⟩)) (de_is (de_shl (i := 1) (j := (l : Int)) de_int (de_var 3 rfl) (cpw (by omega))) (by rw [one_shl])) (fun y hy => ?_) fun y hy => ⟨y, rfl, hy.1, hy.2⟩) (de_is (de_shl (i := 1) (j := (l : Int)) de_int (de_var 3 rfl) (cpw (by omega))) (by rw [one_shl])) (fun j hj => ?_) fun j ⟨y, hy, h⟩ => ⟨y, by rw [hy], h⟩) fun j ⟨y, hy, h0, h1⟩ => by rw [hy]; exact near_lt hl h0 h1) fun z ⟨j, hz, h⟩ => ⟨us ++ [j], by rw [hz, List.map_append, List.map_append]; rfl, by rw [List.length_append, hu1]; rfl, fun y hy => (List.mem_append.mp hy).elim (fun q => hu2 y q) fun q => by rw [List.mem_singleton.mp q]; exact h⟩
    · have z := cdw (z := y) (i := l) (by omega)
      rwa [Int.toNat_natCast, Int.one_mul] at z
    · obtain ⟨y, rfl, h0, h1⟩ := hj
      have p := two_pow_pos l
      have a1 : 0 ≤ y / 2 ^ l := Int.ediv_nonneg h0 (Int.le_of_lt p)
      have a2 : y / 2 ^ l ≤ y := Int.ediv_le_self _ h0
      have a3 : (2 : Int) ^ v ≤ 2 ^ 64 := by
        rw [← HW.pow_int, ← HW.pow_int]
        exact Int.ofNat_le.mpr (Nat.pow_le_pow_right (by decide) v2)
      exact .inl ⟨by omega, by omega⟩
  subst ha
  show DSs _ _ ⟨deckRs D C, M, [some (.at D), some (aT (ws.map .int)), some (aI v), some (aI l), some (aL (us.map .int)), none]⟩ _ _
  exact ds_one (ds_ret (R := Is (aT (us.map .int))) (de_tupleOf T.n_tuple (de_var 4 rfl) (seqs_l _)) fun a ha => ⟨rfl, us, ha, hu1, hu2⟩)
theorem b_lawColumn (T : Txt K mg) : Binds K T.lawColumn.fd ["state", "level"] [] := T.lawColumn.F.binds fun _ _ _ _ _ _ us hl => match us, hl with | [_, _], _ => rfl
def S_lawColumn (rs : Rs) (M : Mem) (as : List Ab) (R : Ab → Prop) : Prop := ∃ (k : Nat) (ws : List Int), as = [aT (ws.map .int), aI k] ∧ ws.length ≤ 100 ∧ k ≤ 64 ∧ R = Is (aT ((colS k ws).map .int))
theorem ok_lawColumn (T : Txt K mg) : FnG P w K mg base CX0 1 T.lawColumn.f T.lawColumn.fd ["state", "level"] (Spec K S_lawColumn) := by
  refine fn_go T.lawColumn.F sc_lawColumn (fun rs M as R ⟨_, _, h, _⟩ => by rw [h]; rfl) fun cdv A outer s H0 E room gd rs M as R t ro => ?_
  obtain ⟨k, ws, rfl, hn, hk, rfl⟩ := t
  have nd := sc_lawColumn.nd
  have e : (List.range ws.length).map (fun i => PyData.int (ws.getD i 0 / 2 ^ k % 2)) = (colS k ws).map .int := by
    unfold colS
    rw [List.map_map]
    exact range_map_get ws _ _ fun i x h => by rw [List.getD_eq_getElem?_getD, h]; rfl
  refine ds_one (ds_ret (R := Is (aT ((colS k ws).map .int))) (de_tupleOf T.n_tuple (de_is (de_lc1 (N := N_lawColumn) (sc := defScope s_lawColumn) 2 (n0 := ws.length) (item0 := AtD (ws.map .int)) (f := fun i => .int (ws.getD i 0 / 2 ^ k % 2)) (di_tup (de_var 0 rfl) fun y hy => ⟨_, hy, by rw [List.length_map], rfl⟩) nd (by decide +kernel) (by omega)
    (fun i a hi ia => fun s H C' cl fp => ?_) (fun s H C' cl fp => dg_name 2 nd)) (by rw [e])) (seqs_l _)) fun a ha => ⟨rfl, ha⟩)
  obtain ⟨x, hx, rfl⟩ := atD_ints ia
  rw [getD_of hx]
  refine de_mod (de_intOf T.n_int (de_div (de_var 2 rfl) (de_is (de_shl (i := 1) (j := (k : Int)) de_int (de_var 1 rfl) (cpw (by omega))) (by rw [one_shl])) ?_)) de_int (by decide)
  have z := cdw (z := x) (i := k) (by omega)
  rwa [Int.toNat_natCast, Int.one_mul] at z

/-! ### the law -/
theorem b_lawDeck (T : Txt K mg) : Binds K T.lawDeck.fd ["script"] [] := T.lawDeck.F.binds fun _ _ _ _ _ _ us hl => match us, hl with | [_], _ => rfl
theorem runOk_of {n most : Nat} {ks : List Str} {ts : List Trm} (h : Prog n ks most ts) (m : most ≤ 120) (hl : ts.length ≤ 1000) : ∃ f, RunOk n 3 ts f ∧ ∀ s ∈ f, s.1.Ok n ∧ s.1.word ∈ ks := by
  obtain ⟨ne, lim, few⟩ := h
  have hin := pflats_in (n := n) (ks := ks) ts fun j t hj => (lim j t hj).elim (fun q => ⟨5, 3, q⟩) fun q => ⟨11, 2, q⟩
  have h0 : 0 < ts.length := List.length_pos_iff.mpr ne
  have fm : (pflats ts).getD (ts.length - 1) [] ∈ pflats ts := by
    rw [List.getD_eq_getElem?_getD, List.getElem?_eq_getElem (by rw [pflats_length]; omega)]
    exact List.getElem_mem _
  have f120 : ∀ f ∈ pflats ts, f.length ≤ 120 := fun f hf => Nat.le_trans (few f hf) m
  refine ⟨_, ⟨⟨ne, hl, fun j t hj => ?_⟩, fun us U j t h1 h2 => ?_, rfl, by have := f120 _ fm; omega, fun s hs => (hin _ fm s hs).1⟩, hin _ fm⟩
  · rcases lim j t hj with q | q
    · exact ⟨dep_of_lim 3 t q, parts_lt 3 t q, Nat.le_trans (parts_len (by decide) 3 t q) (by decide)⟩
    · exact ⟨Dep.up 2 t (dep_of_lim 2 t q), parts_lt 2 t q, Nat.le_trans (parts_len (by decide) 2 t q) (by decide)⟩
  · rcases lim j t h2 with q | q
    · exact ⟨good_lim (B := 15000) (fun _ _ => trivial) (by decide) (by decide) (by decide) f120 3 t (by decide) q, good_lim (B := 15000) (fun f hf => show f.length ≤ 100000 by omega) (by decide) (by decide) (by decide) f120 3 t (by decide) q⟩
    · exact ⟨Good.up 2 t (good_lim (B := 15000) (fun _ _ => trivial) (by decide) (by decide) (by decide) f120 2 t (by decide) q), Good.up 2 t (good_lim (B := 15000) (fun f hf => show f.length ≤ 100000 by omega) (by decide) (by decide) (by decide) f120 2 t (by decide) q)⟩
theorem dt_neSame {X : Cx} {rs : Rs} {M : Mem} {ρ : List (Option Ab)} {a b : Expr} {pos : Pos} {W U : Int → Prop} (ha : DE X rs M ρ a (IntW W)) (hb : DE X rs M ρ b (IntW U)) (h : ∀ i j, W i → U j → i = j) : DT X rs M ρ (.Compare a [.NotEq] [b] pos) (fun c => c = false) :=
  dt_cmp op_ne ha hb (fun _ _ ⟨i, e1, w1⟩ ⟨j, e2, w2⟩ => by
    subst e1 e2
    exact ar_neI ⟨_, rfl, by rw [h i j w1 w2]; simp⟩) (nomark _)
theorem de_nv {X : Cx} {rs : Rs} {M : Mem} {ρ : List (Option Ab)} {a b : Expr} {q : Nat} {pos : Pos} {vm : Nat} (ha : DE X rs M ρ a (IntW fun r => 3 ≤ r ∧ r ≤ 8)) (hb : DE X rs M ρ b (IntW fun r => 1 ≤ r ∧ r ≤ vm)) (h1 : starEach [a, b] X.env = (false, eval a X.env) :: starEach [b] X.env := by rfl) (h2 : starEach [b] X.env = (false, eval b X.env) :: starEach [] X.env := by rfl) :
    DE X rs M ρ (.Tuple [a, b] q pos) (fun a => ∃ n v : Nat, a = aT [.int n, .int v] ∧ 3 ≤ n ∧ n ≤ 8 ∧ 1 ≤ v ∧ v ≤ vm) :=
  de_tupR (T := fun as => ∃ n v : Nat, as = [aI n, aI v] ∧ 3 ≤ n ∧ n ≤ 8 ∧ 1 ≤ v ∧ v ≤ vm)
    (da_consR ha (da_consR (T' := fun as => ∃ v : Nat, as = [aI v] ∧ 1 ≤ v ∧ v ≤ vm) hb da_nil (fun y ys ⟨r, h1, r1, r2⟩ h3 => ⟨r.toNat, by rw [h1, h3]; congr 2; omega, by omega, by omega⟩) h2) (fun y ys ⟨r, h1, r1, r2⟩ ⟨v, h3, h4⟩ => ⟨r.toNat, v, by rw [h1, h3]; congr 2; omega, by omega, by omega, h4⟩) h1)
    fun as ⟨n, v, h, r⟩ => ⟨by rw [h]; show 2 ≤ 100000; decide, [.int n, .int v], h, n, v, rfl, r⟩
theorem nI_words {D C : Addr} {M : Mem} {ks : List Nat} {vm : Nat} (h0 : ks ≠ []) (hl : ks.length ≤ 1000) (h : ∀ k ∈ ks, 1 ≤ k ∧ k ≤ vm) : ∀ as, as = [.at D, aL ((nI ks).map .int)] → S_lawPick (deckRs D C) M as (IntW fun r => 1 ≤ r ∧ r ≤ vm) := fun as e => by
  refine ⟨D, C, _, rfl, e, fun z => h0 ?_, ?_, fun d hd => ?_⟩
  · exact List.map_eq_nil_iff.mp (List.map_eq_nil_iff.mp z)
  · unfold nI
    rw [List.length_map, List.length_map]
    omega
  · unfold nI at hd
    rw [List.map_map] at hd
    obtain ⟨k, hk, rfl⟩ := List.mem_map.mp hd
    exact ⟨k, rfl, by have := h k hk; omega, by have := h k hk; omega⟩
def kss : List (List Str) := [["xor", "and"], ["add", "xor", "and"], ["add", "xor", "and", "one"]]
theorem sz_s {v : Nat} {ws : List Int} (hv : v ≤ 100) (hl : ws.length ≤ 100) (h : InW v ws) : Sz 50 10000000 (.tuple (ws.map .int)) := by
  have p := pow_le_100 hv
  exact (sz_words hl fun x hx => by have := h x hx; omega).mono (by decide) (by decide)
theorem ok_law (T : Txt K mg) {TL : TabL} (Y : PY T base TL) : FnG P w K mg base CX0 12 T.law.f T.law.fd ["script"] (Spec K (S_lawT K TL)) := by
  refine fn_lawT T.law.F sc_law fun cdv A outer s H0 E room gd ns hl => ?_
  have nd := sc_law.nd
  refine ds_cons (ds_deckT1 1 (ok_lawDeck T) (room.mono (by decide)) gd T.lawDeck.g T.lawDeck.F.kp (b_lawDeck T) (de_var 0 rfl) hl (fun D C => ?_) nd)
  have nt := noTab1 D C
  show DSs _ _ ⟨tRs (deckRs D C) TL, [], [some (aScr K ns), some (.at D), none, none, none, none, none, none, none, none, none, none, none, none, none]⟩ _ _
  refine ds_cons (ds_for (fun mm item i S => ∃ y2 y3 y4 y5 y6 y7 y8 y9 y10 y11 y13 y14, S = ⟨tRs (deckRs D C) TL, [], [some (aScr K ns), some (.at D), y2, y3, y4, y5, y6, y7, y8, y9, y10, y11, none, y13, y14]⟩) (RI := fun mm item => item = AtR 0)
    (di_range1 rfl T.n_range (da_cons de_int da_nil) fun as h => ⟨6, h, by decide, by decide, rfl⟩) (dg_name 2 nd) (fun mm item _ => ⟨none, none, none, none, none, none, none, none, none, none, none, none, rfl⟩)
    (fun mm item i S a hi hlt ⟨y2, y3, y4, y5, y6, y7, y8, y9, y10, y11, y13, y14, e⟩ ia => ?_) (fun mm item S hi ⟨y2, y3, y4, y5, y6, y7, y8, y9, y10, y11, y13, y14, e⟩ => ?_) PassesOwn.never rfl)
  · subst hi e
    subst ia
    rw [Int.zero_add]
    refine ⟨_, rfl, ?_⟩
    show DSs _ _ ⟨tRs (deckRs D C) TL, [], [some (aScr K ns), some (.at D), some (aI i), y3, y4, y5, y6, y7, y8, y9, y10, y11, none, y13, y14]⟩ _ _
    refine ds_cons (ds_asg (de_nv (vm := 64) (de_addW (W := fun r => 0 ≤ r ∧ r < 6) de_int (de_callF (E := E0) (R := Below 6) nt (ok_lawDraw T) (room.mono (by decide)) gd (by rfl) T.lawDraw.g T.lawDraw.F.kp (b_lawDraw T) pass0 (da_cons (de_var 1 rfl) (da_cons de_int da_nil)) fun as h => ⟨D, C, 6, rfl, h, by decide, by decide, rfl⟩) (fun j h => ⟨by omega, by omega⟩))
      (de_callF (E := E0) nt (ok_lawPick T) (room.mono (by decide)) gd (by rfl) T.lawPick.g T.lawPick.F.kp (b_lawPick T) pass0 (da_cons (de_var 1 rfl) (da_cons (de_lst (ds := (nI [2, 3, 4, 8, 16, 64]).map .int) (da_cons de_int (da_cons de_int (da_cons de_int (da_cons de_int (da_cons de_int (da_cons de_int da_nil))))))) da_nil)) (nI_words (by decide) (by decide) (by decide)))) (dg_tup rfl (dgs_cons 3 (dgs_cons 4 dgs_nil nd) nd)) (fun a ⟨n, v, ha, n1, n2, v1, v2⟩ => ?_))
    subst ha
    refine ⟨_, ⟨_, rfl, rfl, rfl⟩, ?_⟩
    show DSs _ _ ⟨tRs (deckRs D C) TL, [], [some (aScr K ns), some (.at D), some (aI i), some (aI n), some (aI v), y5, y6, y7, y8, y9, y10, y11, none, y13, y14]⟩ _ _
    obtain ⟨ks, hks⟩ : ∃ ks, kss[i % 3]? = some ks := ⟨_, List.getElem?_eq_getElem (Nat.mod_lt _ (by decide))⟩
    refine ds_cons (ds_set 5 (R := Is (aL (ks.map .str))) (de_ix (y := aL (ks.map .str)) (de_lst (ds := kss.map fun ks => .list (ks.map .str)) (da_cons (de_lst (ds := [.str "xor", .str "and"]) (da_cons de_str (da_cons de_str da_nil))) (da_cons (de_lst (ds := [.str "add", .str "xor", .str "and"]) (da_cons de_str (da_cons de_str (da_cons de_str da_nil)))) (da_cons (de_lst (ds := [.str "add", .str "xor", .str "and", .str "one"]) (da_cons de_str (da_cons de_str (da_cons de_str (da_cons de_str da_nil))))) da_nil))))
      (de_is (de_mod (i := (i : Int)) (j := 3) (de_intOf T.n_int (de_var 2 rfl)) de_int (by decide)) (show aI ((i : Int) % 3) = aI ((i % 3 : Nat) : Int) by rfl)) (seqs_l _) (atI_nat (by rw [List.map_map, List.getElem?_map, hks]; rfl))) (fun a ha => ?_) nd)
    subst ha
    have hw3 : ks = [("xor" : Str), "and"] ∨ ks = [("add" : Str), "xor", "and"] ∨ ks = [("add" : Str), "xor", "and", "one"] := by
      have m := List.mem_of_getElem? hks
      simp only [kss, List.mem_cons, List.not_mem_nil, or_false] at m
      exact m
    have wok : WordsOk ks := by rcases hw3 with rfl | rfl | rfl <;> exact ⟨by decide, by decide, by decide⟩
    refine ds_cons (ds_par (i := 6) (j := 7) rfl nd (dax_cons (dx_of (R := fun a => ∃ ts, a = aT (ts.map Trm.dat) ∧ Prog n ks 40 ts ∧ ts.length ≤ 7 + 1) (de_callF (E := E0) nt (ok_lawProgram T) (room.mono (by decide)) gd (by rfl) T.lawProgram.g T.lawProgram.F.kp (b_lawProgram T) pass0 (da_cons (de_var 1 rfl) (da_cons (de_var 3 rfl) (da_cons (de_var 5 rfl) (da_cons (y := aI (7 : Nat)) de_int (da_cons (y := aI (40 : Nat)) de_int da_nil))))) fun as h => ⟨D, C, n, 7, 40, ks, rfl, h, n1, by omega, by decide, by decide, by decide, by decide, wok, rfl⟩)
      fun a ha => dax_cons (dx_of (R := IsState n v) (de_callF (E := E0) nt (ok_lawState T) (room.mono (by decide)) gd (by rfl) T.lawState.g T.lawState.F.kp (b_lawState T) pass0 (da_cons (de_var 1 rfl) (da_cons (de_var 3 rfl) (da_cons (de_var 4 rfl) da_nil))) fun as h => ⟨D, C, n, v, rfl, h, by omega, v1, v2, rfl⟩) fun b hb => dax_nil ⟨_, _, rfl, ?_⟩))))
    obtain ⟨ts, rfl, hp, hts⟩ := ha
    obtain ⟨ws, rfl, hn, hw⟩ := hb
    have hw : InW v ws := hw
    obtain ⟨f, hR, hf⟩ := runOk_of hp (by decide) (by omega)
    show DSs _ _ ⟨tRs (deckRs D C) TL, [], [some (aScr K ns), some (.at D), some (aI i), some (aI n), some (aI v), some (aL (ks.map .str)), some (aT (ts.map Trm.dat)), some (aT (ws.map .int)), y8, y9, y10, y11, none, y13, y14]⟩ _ _
    refine ds_cons (ds_set 8 (R := IsState n v) (de_callF (E := E0) nt (ok_lawNear T) (room.mono (by decide)) gd (by rfl) T.lawNear.g T.lawNear.F.kp (b_lawNear T) pass0 (da_cons (de_var 1 rfl) (da_cons (de_var 7 rfl) (da_cons (de_var 4 rfl) da_nil))) fun as h => ⟨D, C, n, v, ws, rfl, h, hn, by omega, v1, v2, rfl⟩) (fun a ⟨us, ha, hn2, hw2⟩ => ?_) nd)
    subst ha
    have hw2 : InW v us := hw2
    show DSs _ _ ⟨tRs (deckRs D C) TL, [], [some (aScr K ns), some (.at D), some (aI i), some (aI n), some (aI v), some (aL (ks.map .str)), some (aT (ts.map Trm.dat)), some (aT (ws.map .int)), some (aT (us.map .int)), y9, y10, y11, none, y13, y14]⟩ _ _
    refine ds_cons (ds_par (i := 9) (j := 10) rfl nd (dax_cons (dx_of (R := Is (aT ((runS v f ws).map .int))) (de_call (E := E0) (ok_run T Y 3) (room.mono (by decide)) gd (by rfl) T.run.g T.run.F.kp (b_run T) pass0 (da_cons (de_var 3 rfl) (da_cons (de_var 4 rfl) (da_cons (de_var 6 rfl) (da_cons (de_var 7 rfl) da_nil)))) fun as h => ⟨deckRs D C, n, v, ts, ws, f, rfl, nt, h, hR, hn, by omega, v2, hw, rfl⟩)
      fun a ha => dax_cons (dx_of (R := Is (aT ((runS v f us).map .int))) (de_call (E := E0) (ok_run T Y 3) (room.mono (by decide)) gd (by rfl) T.run.g T.run.F.kp (b_run T) pass0 (da_cons (de_var 3 rfl) (da_cons (de_var 4 rfl) (da_cons (de_var 6 rfl) (da_cons (de_var 8 rfl) da_nil)))) fun as h => ⟨deckRs D C, n, v, ts, us, f, rfl, nt, h, hR, hn2, by omega, v2, hw2, rfl⟩) fun b hb => dax_nil ⟨_, _, rfl, ?_⟩))))
    subst ha hb
    show DSs _ _ ⟨tRs (deckRs D C) TL, [], [some (aScr K ns), some (.at D), some (aI i), some (aI n), some (aI v), some (aL (ks.map .str)), some (aT (ts.map Trm.dat)), some (aT (ws.map .int)), some (aT (us.map .int)), some (aT ((runS v f ws).map .int)), some (aT ((runS v f us).map .int)), y11, none, y13, y14]⟩ _ _
    have ho : ∀ s ∈ f, s.1.Ok n := fun s hs => (hf s hs).1
    refine ds_cons (ds_if (T := fun c => c = false) (dt_neSame (W := fun i => ∃ k : Nat, i = k ∧ Alike v (runS v f ws) (runS v f us) k) (U := fun i => ∃ k : Nat, i = k ∧ Alike v ws us k)
      (de_imp (de_callF (E := E0) (R := fun a => ∃ k : Nat, a = aI k ∧ Alike v (runS v f ws) (runS v f us) k) nt (ok_lawShared T) (room.mono (by decide)) gd (by rfl) T.lawShared.g T.lawShared.F.kp (b_lawShared T) pass0 (da_cons (de_var 4 rfl) (da_cons (de_var 9 rfl) (da_cons (de_var 10 rfl) da_nil))) fun as h => ⟨v, n, runS v f ws, runS v f us, h, (runS_len v f ws).trans hn, (runS_len v f us).trans hn2, by omega, v2, rfl⟩) fun z ⟨k, hz, hk⟩ => ⟨k, hz, k, rfl, hk⟩)
      (de_imp (de_callF (E := E0) (R := fun a => ∃ k : Nat, a = aI k ∧ Alike v ws us k) nt (ok_lawShared T) (room.mono (by decide)) gd (by rfl) T.lawShared.g T.lawShared.F.kp (b_lawShared T) pass0 (da_cons (de_var 4 rfl) (da_cons (de_var 7 rfl) (da_cons (de_var 8 rfl) da_nil))) fun as h => ⟨v, n, ws, us, h, hn, hn2, by omega, v2, rfl⟩) fun z ⟨k, hz, hk⟩ => ⟨k, hz, k, rfl, hk⟩)
      fun i j ⟨k, e1, a1⟩ ⟨l, e2, a2⟩ => by rw [e1, e2, Alike.one a1 (Alike.run ho hn hn2 hw hw2 a2)]) (fun h => nomatch h) fun _ => ds_nil ?_)
    have lf : (runS v f ws).length = n := (runS_len v f ws).trans hn
    have wf := runS_inW v f ws hw
    have szr : ∀ {x : Nat} {zs : List Int}, x ≤ 64 → zs.length = n → InW x zs → Sz 50 10000000 (.tuple (zs.map .int)) := fun {x zs} hx hz hi => sz_s (v := x) (by omega) (by omega) hi
    -- doubles and noughts
    refine ds_cut (fun S' => ∃ y11, S' = ⟨tRs (deckRs D C) TL, [], [some (aScr K ns), some (.at D), some (aI i), some (aI n), some (aI v), some (aL (ks.map .str)), some (aT (ts.map Trm.dat)), some (aT (ws.map .int)), some (aT (us.map .int)), some (aT ((runS v f ws).map .int)), some (aT ((runS v f us).map .int)), y11, none, y13, y14]⟩)
      (ds_if (T := fun c => c = !decide (("one" : Str) ∈ ks)) (dt_notInSL (s := "one") (ss := ks) de_str (de_var 5 rfl)) (fun hc => ?_) fun _ => ds_nil ⟨_, rfl⟩) fun S' ⟨y11, e⟩ => ?_
    · have no : ("one" : Str) ∉ ks := fun z => by rw [decide_eq_true z] at hc; cases hc
      have hf1 : ∀ s ∈ f, s.1.Ok n ∧ s.1.word ≠ "one" := fun s hs => ⟨(hf s hs).1, fun z => no (by rw [← z]; exact (hf s hs).2)⟩
      have ed : ∀ zs : List Int, (List.range zs.length).map (fun i => PyData.int (2 * zs.getD i 0 % 2 ^ v)) = (dblL v zs).map .int := fun zs => by
        unfold dblL
        rw [List.map_map]
        exact range_map_get zs _ _ fun i x h => by rw [List.getD_eq_getElem?_getD, h, Int.mul_comm]; rfl
      refine ds_cons (ds_set 11 (R := Is (aT ((dblL v ws).map .int))) (de_tupleOf T.n_tuple (de_is (de_lc1 (N := N_law) (sc := defScope s_law) 12 (n0 := ws.length) (item0 := AtD (ws.map .int)) (f := fun i => .int (2 * ws.getD i 0 % 2 ^ v)) (di_tup (de_var 7 rfl) fun y hy => ⟨_, hy, by rw [List.length_map], rfl⟩) nd (by decide +kernel) (by omega) (fun i a hi ia => fun s H C' cl fp => ?_) (fun s H C' cl fp => dg_name 12 nd)) (by rw [ed])) (seqs_l _)) (fun a ha => ?_) nd)
      · obtain ⟨x, hx, rfl⟩ := atD_ints ia
        rw [getD_of hx]
        exact de_mod (de_intOf T.n_int (de_mul de_int (de_var 12 rfl) (.inl ⟨by decide, by decide⟩))) (de_is (de_shl (i := 1) (j := (v : Int)) de_int (de_var 4 rfl) (cpw (by omega))) (by rw [one_shl])) (two_pow_pos v)
      subst ha
      show DSs _ _ ⟨tRs (deckRs D C) TL, [], [some (aScr K ns), some (.at D), some (aI i), some (aI n), some (aI v), some (aL (ks.map .str)), some (aT (ts.map Trm.dat)), some (aT (ws.map .int)), some (aT (us.map .int)), some (aT ((runS v f ws).map .int)), some (aT ((runS v f us).map .int)), some (aT ((dblL v ws).map .int)), none, y13, y14]⟩ _ _
      have ld : (dblL v ws).length = n := (dblL_len v ws).trans hn
      refine ds_cons (ds_if (T := fun c => c = false) (dt_imp (dt_neS (de_repr (d := .tuple ((dblL v (runS v f ws)).map .int)) gd room.units T.n_repr (de_is (de_call (E := E0) (R := Is (aT ((runS v f (dblL v ws)).map .int))) (ok_run T Y 3) (room.mono (by decide)) gd (by rfl) T.run.g T.run.F.kp (b_run T) pass0 (da_cons (de_var 3 rfl) (da_cons (de_var 4 rfl) (da_cons (de_var 6 rfl) (da_cons (de_var 11 rfl) da_nil)))) fun as h => ⟨deckRs D C, n, v, ts, dblL v ws, f, rfl, nt, h, hR, ld, by omega, v2, dblL_inW v ws, rfl⟩) (by rw [runS_dbl f ws hf1 hn hw])) (view_d _) (.inr (.inl ⟨_, rfl⟩)) (szr v2 ((dblL_len _ _).trans lf) (dblL_inW _ _)))
        (de_repr (d := .tuple ((dblL v (runS v f ws)).map .int)) gd room.units T.n_repr (de_tupleOf T.n_tuple (de_is (de_lc1 (N := N_law) (sc := defScope s_law) 12 (n0 := (runS v f ws).length) (item0 := AtD ((runS v f ws).map .int)) (f := fun i => .int (2 * (runS v f ws).getD i 0 % 2 ^ v)) (di_tup (de_var 9 rfl) fun y hy => ⟨_, hy, by rw [List.length_map], rfl⟩) nd (by decide +kernel) (by omega) (fun i a hi ia => fun s H C' cl fp => ?_) (fun s H C' cl fp => dg_name 12 nd)) (by rw [ed])) (seqs_l _)) (view_d _) (.inr (.inl ⟨_, rfl⟩)) (szr v2 ((dblL_len _ _).trans lf) (dblL_inW _ _)))) fun c h => by simpa using h) (fun h => nomatch h) fun _ => ds_nil ?_)
      · obtain ⟨x, hx, rfl⟩ := atD_ints ia
        rw [getD_of hx]
        exact de_mod (de_intOf T.n_int (de_mul de_int (de_var 12 rfl) (.inl ⟨by decide, by decide⟩))) (de_is (de_shl (i := 1) (j := (v : Int)) de_int (de_var 4 rfl) (cpw (by omega))) (by rw [one_shl])) (two_pow_pos v)
      have z0 : (List.replicate n [PyData.int 0]).flatten = (List.replicate n (0 : Int)).map .int := by rw [flat_one, List.map_replicate]
      have wz : InW v (List.replicate n (0 : Int)) := fun x hx => by
        rw [(List.mem_replicate.mp hx).2]
        exact ⟨Int.le_refl _, two_pow_pos v⟩
      exact ds_one (ds_if (T := fun c => c = false) (dt_imp (dt_neS (de_repr (d := .tuple ((List.replicate n (0 : Int)).map .int)) gd room.units T.n_repr (de_is (de_call (E := E0) (R := Is (aT ((runS v f (List.replicate n 0)).map .int))) (ok_run T Y 3) (room.mono (by decide)) gd (by rfl) T.run.g T.run.F.kp (b_run T) pass0 (da_cons (de_var 3 rfl) (da_cons (de_var 4 rfl) (da_cons (de_var 6 rfl) (da_cons (y := aT ((List.replicate n (0 : Int)).map .int)) (de_is (de_repTn (ds := [.int 0]) (k := n) (de_tup (ds := [.int 0]) (da_cons de_int da_nil)) (de_var 3 rfl) (by decide) (by omega) (by omega) (by decide)) (by rw [z0])) da_nil)))) fun as h => ⟨deckRs D C, n, v, ts, List.replicate n 0, f, rfl, nt, h, hR, List.length_replicate, by omega, v2, wz, rfl⟩) (by rw [runS_zero f fun s hs => (hf1 s hs).2])) (view_d _) (.inr (.inl ⟨_, rfl⟩)) (szr v2 List.length_replicate wz))
        (de_repr (d := .tuple ((List.replicate n (0 : Int)).map .int)) gd room.units T.n_repr (de_is (de_repTn (ds := [.int 0]) (k := n) (de_tup (ds := [.int 0]) (da_cons de_int da_nil)) (de_var 3 rfl) (by decide) (by omega) (by omega) (by decide)) (by rw [z0])) (view_d _) (.inr (.inl ⟨_, rfl⟩)) (szr v2 List.length_replicate wz))) fun c h => by simpa using h) (fun h => nomatch h) fun _ => ds_nil ⟨_, rfl⟩)
    subst e
    refine ds_one (ds_if (T := fun c => c = !decide (("add" : Str) ∈ ks)) (dt_notInSL (s := "add") (ss := ks) de_str (de_var 5 rfl)) (fun hc => ?_) fun _ => ds_nil ⟨_, _, _, _, _, _, _, _, _, _, _, _, rfl⟩)
    have no : ("add" : Str) ∉ ks := fun z => by rw [decide_eq_true z] at hc; cases hc
    have eks : ks = [("xor" : Str), "and"] := by
      rcases hw3 with rfl | rfl | rfl
      · rfl
      · exact absurd (List.mem_cons_self) no
      · exact absurd (List.mem_cons_self) no
    have hf2 : ∀ s ∈ f, s.1.word ∈ (["xor", "and"] : List Str) := fun s hs => by rw [← eks]; exact (hf s hs).2
    refine ds_cons (ds_set 13 (R := fun a => ∃ l : Nat, a = aI l ∧ l < v) (de_imp (de_callF (E := E0) (R := Below (v : Int)) nt (ok_lawDraw T) (room.mono (by decide)) gd (by rfl) T.lawDraw.g T.lawDraw.F.kp (b_lawDraw T) pass0 (da_cons (de_var 1 rfl) (da_cons (de_var 4 rfl) da_nil)) fun as h => ⟨D, C, _, rfl, h, by omega, Int.lt_trans (b := 2 ^ 10) (by omega) (by decide), rfl⟩) fun a ⟨r, e, r0, r1⟩ => ⟨r.toNat, by rw [e]; congr 2; omega, by omega⟩) (fun a ⟨l, ha, hl⟩ => ?_) nd)
    subst ha
    show DSs _ _ ⟨tRs (deckRs D C) TL, [], [some (aScr K ns), some (.at D), some (aI i), some (aI n), some (aI v), some (aL (ks.map .str)), some (aT (ts.map Trm.dat)), some (aT (ws.map .int)), some (aT (us.map .int)), some (aT ((runS v f ws).map .int)), some (aT ((runS v f us).map .int)), y11, none, some (aI l), y14]⟩ _ _
    refine ds_one (ds_for (fun m2 item2 j S => ∃ y14, S = ⟨tRs (deckRs D C) TL, [], [some (aScr K ns), some (.at D), some (aI i), some (aI n), some (aI v), some (aL (ks.map .str)), some (aT (ts.map Trm.dat)), some (aT (ws.map .int)), some (aT (us.map .int)), some (aT ((runS v f ws).map .int)), some (aT ((runS v f us).map .int)), y11, none, some (aI l), y14]⟩) (RI := fun m2 item2 => m2 = 3 ∧ item2 = AtD ((nI [0, v - 1, l]).map .int))
      (di_tup (de_tup (ds := (nI [0, v - 1, l]).map .int) (da_cons (y := aI (0 : Nat)) de_int (da_cons (y := aI (v - 1 : Nat)) (de_is (de_sub (i := (v : Int)) (j := 1) (de_var 4 rfl) de_int) (by show aI _ = aI _; congr 2; omega)) (da_cons (de_var 13 rfl) da_nil)))) fun y h => ⟨_, h, rfl, rfl⟩) (dg_name 14 nd) (fun m2 item2 _ => ⟨y14, rfl⟩)
      (fun m2 item2 j S b ⟨p1, p2⟩ hj ⟨y14, e⟩ ib => ?_) (fun m2 item2 S ⟨p1, p2⟩ ⟨y14, e⟩ => ?_) PassesOwn.never rfl)
    · subst p1 p2 e
      obtain ⟨z, hz, rfl⟩ := atD_ints ib
      obtain ⟨o, rfl, ho2⟩ : ∃ o : Nat, z = o ∧ o < v := by
        have m := List.mem_of_getElem? hz
        simp only [nI, List.map_cons, List.map_nil, List.mem_cons, List.not_mem_nil, or_false] at m
        rcases m with rfl | rfl | rfl
        · exact ⟨0, rfl, by omega⟩
        · exact ⟨v - 1, rfl, by omega⟩
        · exact ⟨l, rfl, hl⟩
      refine ⟨_, rfl, ?_⟩
      show DSs _ _ ⟨tRs (deckRs D C) TL, [], [some (aScr K ns), some (.at D), some (aI i), some (aI n), some (aI v), some (aL (ks.map .str)), some (aT (ts.map Trm.dat)), some (aT (ws.map .int)), some (aT (us.map .int)), some (aT ((runS v f ws).map .int)), some (aT ((runS v f us).map .int)), y11, none, some (aI l), some (aI o)]⟩ _ _
      have lc : (colS o ws).length = n := (List.length_map ..).trans hn
      have lc2 : (colS o (runS v f ws)).length = n := (List.length_map ..).trans lf
      refine ds_one (ds_if (T := fun c => c = false) (dt_imp (dt_neS (de_repr (d := .tuple ((colS o (runS v f ws)).map .int)) gd room.units T.n_repr (de_is (de_call (E := E0) (R := Is (aT ((runS 1 f (colS o ws)).map .int))) (ok_run T Y 3) (room.mono (by decide)) gd (by rfl) T.run.g T.run.F.kp (b_run T) pass0 (da_cons (de_var 3 rfl) (da_cons (y := aI (1 : Nat)) de_int (da_cons (de_var 6 rfl) (da_cons (y := aT ((colS o ws).map .int)) (de_callF (E := E0) nt (ok_lawColumn T) (room.mono (by decide)) gd (by rfl) T.lawColumn.g T.lawColumn.F.kp (b_lawColumn T) pass0 (da_cons (de_var 7 rfl) (da_cons (de_var 14 rfl) da_nil)) fun as h => ⟨o, ws, h, by omega, by omega, rfl⟩) da_nil)))) fun as h => ⟨deckRs D C, n, 1, ts, colS o ws, f, rfl, nt, h, hR, lc, by omega, by decide, colS_inW o ws, rfl⟩) (by rw [runS_col o f ws hf2 hw])) (view_d _) (.inr (.inl ⟨_, rfl⟩)) (szr (x := 1) (by decide) lc2 (colS_inW _ _)))
        (de_repr (d := .tuple ((colS o (runS v f ws)).map .int)) gd room.units T.n_repr (de_callF (E := E0) (R := Is (aT ((colS o (runS v f ws)).map .int))) nt (ok_lawColumn T) (room.mono (by decide)) gd (by rfl) T.lawColumn.g T.lawColumn.F.kp (b_lawColumn T) pass0 (da_cons (de_var 9 rfl) (da_cons (de_var 14 rfl) da_nil)) fun as h => ⟨o, runS v f ws, h, by omega, by omega, rfl⟩) (view_d _) (.inr (.inl ⟨_, rfl⟩)) (szr (x := 1) (by decide) lc2 (colS_inW _ _)))) fun c h => by simpa using h) (fun h => nomatch h) fun _ => ds_nil ⟨_, rfl⟩)
    · subst p1 p2 e
      exact ⟨_, _, _, _, _, _, _, _, _, _, _, _, rfl⟩
  · subst hi e
    exact ds_one (ds_ret (R := Is (aB true)) de_bl fun a ha => ⟨⟨_, rfl⟩, ha⟩)

end
/-! ### the end -/
theorem all_mk {l : PySem.W.OpenLaw} {w : World} {K : PySem.W.Frag} {h : Heap} {mg : Str → Option Value} {fa : Addr} (X : K.In h) (G : h.Ns mainGlobals mg) (hfa : mg "law" = some (.ref fa)) {tc Pt : Addr} (KD : GlD K mg "KINDS" (.tuple ([("add" : Str), "xor", "and", "one"].map .str))) (MS : GlI mg "MAX_STEPS" 5000)
    {f0 : Addr} {od0 an0 : Option Addr} {sl0 : Array (Option Value)} {oc0 kV0 dc0 pm0 cd0 ct0 : Value}
    (a0 : PySem.W.nsIn K mainGlobals "done" = some (some (.ref f0))) (l0 : K.lookup f0 = some ⟨oc0, od0, .func (PySem.W.fnOf "done" "done" (defArgs s_done) (defBody s_done) (defScope s_done) .none kV0 dc0 pm0 an0 cd0 ct0), sl0⟩) (c0 : PySem.W.codeIn K cd0 "done" = true) (k0 : PySem.W.keepIn K (.ref f0) = true)
    {f1 : Addr} {od1 an1 : Option Addr} {sl1 : Array (Option Value)} {oc1 kV1 dc1 pm1 cd1 ct1 : Value}
    (a1 : PySem.W.nsIn K mainGlobals "undone" = some (some (.ref f1))) (l1 : K.lookup f1 = some ⟨oc1, od1, .func (PySem.W.fnOf "undone" "undone" (defArgs s_undone) (defBody s_undone) (defScope s_undone) .none kV1 dc1 pm1 an1 cd1 ct1), sl1⟩) (c1 : PySem.W.codeIn K cd1 "undone" = true) (k1 : PySem.W.keepIn K (.ref f1) = true)
    {f2 : Addr} {od2 an2 : Option Addr} {sl2 : Array (Option Value)} {oc2 kV2 dc2 pm2 cd2 ct2 : Value}
    (a2 : PySem.W.nsIn K mainGlobals "_changed" = some (some (.ref f2))) (l2 : K.lookup f2 = some ⟨oc2, od2, .func (PySem.W.fnOf "_changed" "_changed" (defArgs s_changed) (defBody s_changed) (defScope s_changed) .none kV2 dc2 pm2 an2 cd2 ct2), sl2⟩) (c2 : PySem.W.codeIn K cd2 "_changed" = true) (k2 : PySem.W.keepIn K (.ref f2) = true)
    {f3 : Addr} {od3 an3 : Option Addr} {sl3 : Array (Option Value)} {oc3 kV3 dc3 pm3 cd3 ct3 : Value}
    (a3 : PySem.W.nsIn K mainGlobals "_with_word" = some (some (.ref f3))) (l3 : K.lookup f3 = some ⟨oc3, od3, .func (PySem.W.fnOf "_with_word" "_with_word" (defArgs s_withWord) (defBody s_withWord) (defScope s_withWord) .none kV3 dc3 pm3 an3 cd3 ct3), sl3⟩) (c3 : PySem.W.codeIn K cd3 "_with_word" = true) (k3 : PySem.W.keepIn K (.ref f3) = true)
    {f4 : Addr} {od4 an4 : Option Addr} {sl4 : Array (Option Value)} {oc4 kV4 dc4 pm4 cd4 ct4 : Value}
    (a4 : PySem.W.nsIn K mainGlobals "folded" = some (some (.ref f4))) (l4 : K.lookup f4 = some ⟨oc4, od4, .func (PySem.W.fnOf "folded" "folded" (defArgs s_folded) (defBody s_folded) (defScope s_folded) .none kV4 dc4 pm4 an4 cd4 ct4), sl4⟩) (c4 : PySem.W.codeIn K cd4 "folded" = true) (k4 : PySem.W.keepIn K (.ref f4) = true)
    {f5 : Addr} {od5 an5 : Option Addr} {sl5 : Array (Option Value)} {oc5 kV5 dc5 pm5 cd5 ct5 : Value}
    (a5 : PySem.W.nsIn K mainGlobals "used_places" = some (some (.ref f5))) (l5 : K.lookup f5 = some ⟨oc5, od5, .func (PySem.W.fnOf "used_places" "used_places" (defArgs s_usedPlaces) (defBody s_usedPlaces) (defScope s_usedPlaces) .none kV5 dc5 pm5 an5 cd5 ct5), sl5⟩) (c5 : PySem.W.codeIn K cd5 "used_places" = true) (k5 : PySem.W.keepIn K (.ref f5) = true)
    {f6 : Addr} {od6 an6 : Option Addr} {sl6 : Array (Option Value)} {oc6 kV6 dc6 pm6 cd6 ct6 : Value}
    (a6 : PySem.W.nsIn K mainGlobals "_parts_in" = some (some (.ref f6))) (l6 : K.lookup f6 = some ⟨oc6, od6, .func (PySem.W.fnOf "_parts_in" "_parts_in" (defArgs s_partsIn) (defBody s_partsIn) (defScope s_partsIn) .none kV6 dc6 pm6 an6 cd6 ct6), sl6⟩) (c6 : PySem.W.codeIn K cd6 "_parts_in" = true) (k6 : PySem.W.keepIn K (.ref f6) = true)
    {f7 : Addr} {od7 an7 : Option Addr} {sl7 : Array (Option Value)} {oc7 kV7 dc7 pm7 cd7 ct7 : Value}
    (a7 : PySem.W.nsIn K mainGlobals "_of_term" = some (some (.ref f7))) (l7 : K.lookup f7 = some ⟨oc7, od7, .func (PySem.W.fnOf "_of_term" "_of_term" (defArgs s_ofTerm) (defBody s_ofTerm) (defScope s_ofTerm) .none kV7 dc7 pm7 an7 cd7 ct7), sl7⟩) (c7 : PySem.W.codeIn K cd7 "_of_term" = true) (k7 : PySem.W.keepIn K (.ref f7) = true)
    {f8 : Addr} {od8 an8 : Option Addr} {sl8 : Array (Option Value)} {oc8 kV8 dc8 pm8 cd8 ct8 : Value}
    (a8 : PySem.W.nsIn K mainGlobals "_is_idle" = some (some (.ref f8))) (l8 : K.lookup f8 = some ⟨oc8, od8, .func (PySem.W.fnOf "_is_idle" "_is_idle" (defArgs s_isIdle) (defBody s_isIdle) (defScope s_isIdle) .none kV8 dc8 pm8 an8 cd8 ct8), sl8⟩) (c8 : PySem.W.codeIn K cd8 "_is_idle" = true) (k8 : PySem.W.keepIn K (.ref f8) = true)
    {f9 : Addr} {od9 an9 : Option Addr} {sl9 : Array (Option Value)} {oc9 kV9 dc9 pm9 ct9 : Value}
    (a9 : PySem.W.nsIn K mainGlobals "tally_up_to" = some (some (.ref f9))) (l9 : K.lookup f9 = some ⟨oc9, od9, .func (PySem.W.fnOf "tally_up_to" "tally_up_to" (defArgs s_tallyUpTo) (defBody s_tallyUpTo) (defScope s_tallyUpTo) .none kV9 dc9 pm9 an9 (.ref tc) ct9), sl9⟩) (c9 : PySem.W.codeIn K (.ref tc) "tally_up_to" = true) (k9 : PySem.W.keepIn K (.ref f9) = true)
    {f10 : Addr} {od10 an10 : Option Addr} {sl10 : Array (Option Value)} {oc10 kV10 dc10 pm10 cd10 ct10 : Value}
    (a10 : PySem.W.nsIn K mainGlobals "run" = some (some (.ref f10))) (l10 : K.lookup f10 = some ⟨oc10, od10, .func (PySem.W.fnOf "run" "run" (defArgs s_run) (defBody s_run) (defScope s_run) .none kV10 dc10 pm10 an10 cd10 ct10), sl10⟩) (c10 : PySem.W.codeIn K cd10 "run" = true) (k10 : PySem.W.keepIn K (.ref f10) = true)
    {f11 : Addr} {od11 an11 : Option Addr} {sl11 : Array (Option Value)} {oc11 kV11 dc11 pm11 cd11 ct11 : Value}
    (a11 : PySem.W.nsIn K mainGlobals "_law_deck" = some (some (.ref f11))) (l11 : K.lookup f11 = some ⟨oc11, od11, .func (PySem.W.fnOf "_law_deck" "_law_deck" (defArgs s_lawDeck) (defBody s_lawDeck) (defScope s_lawDeck) .none kV11 dc11 pm11 an11 cd11 ct11), sl11⟩) (c11 : PySem.W.codeIn K cd11 "_law_deck" = true) (k11 : PySem.W.keepIn K (.ref f11) = true)
    {f12 : Addr} {od12 an12 : Option Addr} {sl12 : Array (Option Value)} {oc12 kV12 dc12 pm12 cd12 ct12 : Value}
    (a12 : PySem.W.nsIn K mainGlobals "_law_draw" = some (some (.ref f12))) (l12 : K.lookup f12 = some ⟨oc12, od12, .func (PySem.W.fnOf "_law_draw" "_law_draw" (defArgs s_lawDraw) (defBody s_lawDraw) (defScope s_lawDraw) .none kV12 dc12 pm12 an12 cd12 ct12), sl12⟩) (c12 : PySem.W.codeIn K cd12 "_law_draw" = true) (k12 : PySem.W.keepIn K (.ref f12) = true)
    {f13 : Addr} {od13 an13 : Option Addr} {sl13 : Array (Option Value)} {oc13 kV13 dc13 pm13 cd13 ct13 : Value}
    (a13 : PySem.W.nsIn K mainGlobals "_law_pick" = some (some (.ref f13))) (l13 : K.lookup f13 = some ⟨oc13, od13, .func (PySem.W.fnOf "_law_pick" "_law_pick" (defArgs s_lawPick) (defBody s_lawPick) (defScope s_lawPick) .none kV13 dc13 pm13 an13 cd13 ct13), sl13⟩) (c13 : PySem.W.codeIn K cd13 "_law_pick" = true) (k13 : PySem.W.keepIn K (.ref f13) = true)
    {f14 : Addr} {od14 an14 : Option Addr} {sl14 : Array (Option Value)} {oc14 kV14 dc14 pm14 cd14 ct14 : Value}
    (a14 : PySem.W.nsIn K mainGlobals "_law_mixed" = some (some (.ref f14))) (l14 : K.lookup f14 = some ⟨oc14, od14, .func (PySem.W.fnOf "_law_mixed" "_law_mixed" (defArgs s_lawMixed) (defBody s_lawMixed) (defScope s_lawMixed) .none kV14 dc14 pm14 an14 cd14 ct14), sl14⟩) (c14 : PySem.W.codeIn K cd14 "_law_mixed" = true) (k14 : PySem.W.keepIn K (.ref f14) = true)
    {f15 : Addr} {od15 an15 : Option Addr} {sl15 : Array (Option Value)} {oc15 kV15 dc15 pm15 cd15 ct15 : Value}
    (a15 : PySem.W.nsIn K mainGlobals "_law_word" = some (some (.ref f15))) (l15 : K.lookup f15 = some ⟨oc15, od15, .func (PySem.W.fnOf "_law_word" "_law_word" (defArgs s_lawWord) (defBody s_lawWord) (defScope s_lawWord) .none kV15 dc15 pm15 an15 cd15 ct15), sl15⟩) (c15 : PySem.W.codeIn K cd15 "_law_word" = true) (k15 : PySem.W.keepIn K (.ref f15) = true)
    {f16 : Addr} {od16 an16 : Option Addr} {sl16 : Array (Option Value)} {oc16 kV16 dc16 pm16 cd16 ct16 : Value}
    (a16 : PySem.W.nsIn K mainGlobals "_law_state" = some (some (.ref f16))) (l16 : K.lookup f16 = some ⟨oc16, od16, .func (PySem.W.fnOf "_law_state" "_law_state" (defArgs s_lawState) (defBody s_lawState) (defScope s_lawState) .none kV16 dc16 pm16 an16 cd16 ct16), sl16⟩) (c16 : PySem.W.codeIn K cd16 "_law_state" = true) (k16 : PySem.W.keepIn K (.ref f16) = true)
    {f17 : Addr} {od17 an17 : Option Addr} {sl17 : Array (Option Value)} {oc17 kV17 dc17 pm17 cd17 ct17 : Value}
    (a17 : PySem.W.nsIn K mainGlobals "_law_deed" = some (some (.ref f17))) (l17 : K.lookup f17 = some ⟨oc17, od17, .func (PySem.W.fnOf "_law_deed" "_law_deed" (defArgs s_lawDeed) (defBody s_lawDeed) (defScope s_lawDeed) .none kV17 dc17 pm17 an17 cd17 ct17), sl17⟩) (c17 : PySem.W.codeIn K cd17 "_law_deed" = true) (k17 : PySem.W.keepIn K (.ref f17) = true)
    {f18 : Addr} {od18 an18 : Option Addr} {sl18 : Array (Option Value)} {oc18 kV18 dc18 pm18 cd18 ct18 : Value}
    (a18 : PySem.W.nsIn K mainGlobals "_law_flat" = some (some (.ref f18))) (l18 : K.lookup f18 = some ⟨oc18, od18, .func (PySem.W.fnOf "_law_flat" "_law_flat" (defArgs s_lawFlat) (defBody s_lawFlat) (defScope s_lawFlat) .none kV18 dc18 pm18 an18 cd18 ct18), sl18⟩) (c18 : PySem.W.codeIn K cd18 "_law_flat" = true) (k18 : PySem.W.keepIn K (.ref f18) = true)
    {f19 : Addr} {od19 an19 : Option Addr} {sl19 : Array (Option Value)} {oc19 kV19 dc19 pm19 cd19 ct19 : Value}
    (a19 : PySem.W.nsIn K mainGlobals "_law_term" = some (some (.ref f19))) (l19 : K.lookup f19 = some ⟨oc19, od19, .func (PySem.W.fnOf "_law_term" "_law_term" (defArgs s_lawTerm) (defBody s_lawTerm) (defScope s_lawTerm) .none kV19 dc19 pm19 an19 cd19 ct19), sl19⟩) (c19 : PySem.W.codeIn K cd19 "_law_term" = true) (k19 : PySem.W.keepIn K (.ref f19) = true)
    {f20 : Addr} {od20 an20 : Option Addr} {sl20 : Array (Option Value)} {oc20 kV20 dc20 pm20 cd20 ct20 : Value}
    (a20 : PySem.W.nsIn K mainGlobals "_law_program" = some (some (.ref f20))) (l20 : K.lookup f20 = some ⟨oc20, od20, .func (PySem.W.fnOf "_law_program" "_law_program" (defArgs s_lawProgram) (defBody s_lawProgram) (defScope s_lawProgram) .none kV20 dc20 pm20 an20 cd20 ct20), sl20⟩) (c20 : PySem.W.codeIn K cd20 "_law_program" = true) (k20 : PySem.W.keepIn K (.ref f20) = true)
    {f21 : Addr} {od21 an21 : Option Addr} {sl21 : Array (Option Value)} {oc21 kV21 dc21 pm21 cd21 ct21 : Value}
    (a21 : PySem.W.nsIn K mainGlobals "_law_shared" = some (some (.ref f21))) (l21 : K.lookup f21 = some ⟨oc21, od21, .func (PySem.W.fnOf "_law_shared" "_law_shared" (defArgs s_lawShared) (defBody s_lawShared) (defScope s_lawShared) .none kV21 dc21 pm21 an21 cd21 ct21), sl21⟩) (c21 : PySem.W.codeIn K cd21 "_law_shared" = true) (k21 : PySem.W.keepIn K (.ref f21) = true)
    {f22 : Addr} {od22 an22 : Option Addr} {sl22 : Array (Option Value)} {oc22 kV22 dc22 pm22 cd22 ct22 : Value}
    (a22 : PySem.W.nsIn K mainGlobals "_law_near" = some (some (.ref f22))) (l22 : K.lookup f22 = some ⟨oc22, od22, .func (PySem.W.fnOf "_law_near" "_law_near" (defArgs s_lawNear) (defBody s_lawNear) (defScope s_lawNear) .none kV22 dc22 pm22 an22 cd22 ct22), sl22⟩) (c22 : PySem.W.codeIn K cd22 "_law_near" = true) (k22 : PySem.W.keepIn K (.ref f22) = true)
    {f23 : Addr} {od23 an23 : Option Addr} {sl23 : Array (Option Value)} {oc23 kV23 dc23 pm23 cd23 ct23 : Value}
    (a23 : PySem.W.nsIn K mainGlobals "_law_column" = some (some (.ref f23))) (l23 : K.lookup f23 = some ⟨oc23, od23, .func (PySem.W.fnOf "_law_column" "_law_column" (defArgs s_lawColumn) (defBody s_lawColumn) (defScope s_lawColumn) .none kV23 dc23 pm23 an23 cd23 ct23), sl23⟩) (c23 : PySem.W.codeIn K cd23 "_law_column" = true) (k23 : PySem.W.keepIn K (.ref f23) = true)
    {f24 : Addr} {od24 an24 : Option Addr} {sl24 : Array (Option Value)} {oc24 kV24 dc24 pm24 cd24 ct24 : Value}
    (a24 : PySem.W.nsIn K mainGlobals "law" = some (some (.ref f24))) (l24 : K.lookup f24 = some ⟨oc24, od24, .func (PySem.W.fnOf "law" "law" (defArgs s_law) (defBody s_law) (defScope s_law) .none kV24 dc24 pm24 an24 cd24 ct24), sl24⟩) (c24 : PySem.W.codeIn K cd24 "law" = true) (k24 : PySem.W.keepIn K (.ref f24) = true)
    {C_tally : Addr} (C_a_tally : PySem.W.nsIn K mainGlobals "Tally" = some (some (.ref C_tally))) (C_g_tally : PySem.W.plainGet K C_tally Str.empty = true) (C_d_tally : PySem.W.hasDictIn K C_tally = true) (C_o_tally : PySem.W.plainOver K C_tally = true) (C_s_tally : PySem.W.findIn K (.ref C_tally) "__setattr__" = some (some (.builtin "object.__setattr__"))) (C_m_tally : PySem.W.makesIn K C_tally = true) (C_k_tally : PySem.W.keepIn K (.ref C_tally) = true)
    {f_tallyInit : Addr} {od_tallyInit an_tallyInit : Option Addr} {sl_tallyInit : Array (Option Value)} {oc_tallyInit kV_tallyInit dc_tallyInit pm_tallyInit cd_tallyInit ct_tallyInit : Value}
    (M_a_tallyInit : PySem.W.findIn K (.ref C_tally) "__init__" = some (some (.ref f_tallyInit))) (M_f_tallyInit : PySem.W.isFn K (.ref f_tallyInit) = true) (M_l_tallyInit : K.lookup f_tallyInit = some ⟨oc_tallyInit, od_tallyInit, .func (PySem.W.fnOf "__init__" "Tally.__init__" (defArgs s_tallyInit) (defBody s_tallyInit) (defScope s_tallyInit) .none kV_tallyInit dc_tallyInit pm_tallyInit an_tallyInit cd_tallyInit ct_tallyInit), sl_tallyInit⟩) (M_c_tallyInit : PySem.W.codeIn K cd_tallyInit "Tally.__init__" = true) (M_k_tallyInit : PySem.W.keepIn K (.ref f_tallyInit) = true)
    {f_tallyOfDeed : Addr} {od_tallyOfDeed an_tallyOfDeed : Option Addr} {sl_tallyOfDeed : Array (Option Value)} {oc_tallyOfDeed kV_tallyOfDeed dc_tallyOfDeed pm_tallyOfDeed cd_tallyOfDeed ct_tallyOfDeed : Value}
    (M_a_tallyOfDeed : PySem.W.findIn K (.ref C_tally) "of_deed" = some (some (.ref f_tallyOfDeed))) (M_f_tallyOfDeed : PySem.W.isFn K (.ref f_tallyOfDeed) = true) (M_l_tallyOfDeed : K.lookup f_tallyOfDeed = some ⟨oc_tallyOfDeed, od_tallyOfDeed, .func (PySem.W.fnOf "of_deed" "Tally.of_deed" (defArgs s_tallyOfDeed) (defBody s_tallyOfDeed) (defScope s_tallyOfDeed) .none kV_tallyOfDeed dc_tallyOfDeed pm_tallyOfDeed an_tallyOfDeed cd_tallyOfDeed ct_tallyOfDeed), sl_tallyOfDeed⟩) (M_c_tallyOfDeed : PySem.W.codeIn K cd_tallyOfDeed "Tally.of_deed" = true) (M_k_tallyOfDeed : PySem.W.keepIn K (.ref f_tallyOfDeed) = true)
    {f_tallyOfRow : Addr} {od_tallyOfRow an_tallyOfRow : Option Addr} {sl_tallyOfRow : Array (Option Value)} {oc_tallyOfRow kV_tallyOfRow dc_tallyOfRow pm_tallyOfRow cd_tallyOfRow ct_tallyOfRow : Value}
    (M_a_tallyOfRow : PySem.W.findIn K (.ref C_tally) "of_row" = some (some (.ref f_tallyOfRow))) (M_f_tallyOfRow : PySem.W.isFn K (.ref f_tallyOfRow) = true) (M_l_tallyOfRow : K.lookup f_tallyOfRow = some ⟨oc_tallyOfRow, od_tallyOfRow, .func (PySem.W.fnOf "of_row" "Tally.of_row" (defArgs s_tallyOfRow) (defBody s_tallyOfRow) (defScope s_tallyOfRow) .none kV_tallyOfRow dc_tallyOfRow pm_tallyOfRow an_tallyOfRow cd_tallyOfRow ct_tallyOfRow), sl_tallyOfRow⟩) (M_c_tallyOfRow : PySem.W.codeIn K cd_tallyOfRow "Tally.of_row" = true) (M_k_tallyOfRow : PySem.W.keepIn K (.ref f_tallyOfRow) = true)
    {f_tallyOfBack : Addr} {od_tallyOfBack an_tallyOfBack : Option Addr} {sl_tallyOfBack : Array (Option Value)} {oc_tallyOfBack kV_tallyOfBack dc_tallyOfBack pm_tallyOfBack cd_tallyOfBack ct_tallyOfBack : Value}
    (M_a_tallyOfBack : PySem.W.findIn K (.ref C_tally) "of_back" = some (some (.ref f_tallyOfBack))) (M_f_tallyOfBack : PySem.W.isFn K (.ref f_tallyOfBack) = true) (M_l_tallyOfBack : K.lookup f_tallyOfBack = some ⟨oc_tallyOfBack, od_tallyOfBack, .func (PySem.W.fnOf "of_back" "Tally.of_back" (defArgs s_tallyOfBack) (defBody s_tallyOfBack) (defScope s_tallyOfBack) .none kV_tallyOfBack dc_tallyOfBack pm_tallyOfBack an_tallyOfBack cd_tallyOfBack ct_tallyOfBack), sl_tallyOfBack⟩) (M_c_tallyOfBack : PySem.W.codeIn K cd_tallyOfBack "Tally.of_back" = true) (M_k_tallyOfBack : PySem.W.keepIn K (.ref f_tallyOfBack) = true)
    {f_tallyOfTimes : Addr} {od_tallyOfTimes an_tallyOfTimes : Option Addr} {sl_tallyOfTimes : Array (Option Value)} {oc_tallyOfTimes kV_tallyOfTimes dc_tallyOfTimes pm_tallyOfTimes cd_tallyOfTimes ct_tallyOfTimes : Value}
    (M_a_tallyOfTimes : PySem.W.findIn K (.ref C_tally) "of_times" = some (some (.ref f_tallyOfTimes))) (M_f_tallyOfTimes : PySem.W.isFn K (.ref f_tallyOfTimes) = true) (M_l_tallyOfTimes : K.lookup f_tallyOfTimes = some ⟨oc_tallyOfTimes, od_tallyOfTimes, .func (PySem.W.fnOf "of_times" "Tally.of_times" (defArgs s_tallyOfTimes) (defBody s_tallyOfTimes) (defScope s_tallyOfTimes) .none kV_tallyOfTimes dc_tallyOfTimes pm_tallyOfTimes an_tallyOfTimes cd_tallyOfTimes ct_tallyOfTimes), sl_tallyOfTimes⟩) (M_c_tallyOfTimes : PySem.W.codeIn K cd_tallyOfTimes "Tally.of_times" = true) (M_k_tallyOfTimes : PySem.W.keepIn K (.ref f_tallyOfTimes) = true)
    (N_tally_kinds : PySem.W.findIn K (.ref C_tally) "kinds" = some none)
    (N_tally_kept : PySem.W.findIn K (.ref C_tally) "kept" = some none)
    {C_steps : Addr} (C_a_steps : PySem.W.nsIn K mainGlobals "Steps" = some (some (.ref C_steps))) (C_g_steps : PySem.W.plainGet K C_steps Str.empty = true) (C_d_steps : PySem.W.hasDictIn K C_steps = true) (C_o_steps : PySem.W.plainOver K C_steps = true) (C_s_steps : PySem.W.findIn K (.ref C_steps) "__setattr__" = some (some (.builtin "object.__setattr__"))) (C_m_steps : PySem.W.makesIn K C_steps = true) (C_k_steps : PySem.W.keepIn K (.ref C_steps) = true)
    (C_i_steps : PySem.W.findIn K (.ref C_steps) "__init__" = some (some (.builtin "object.__init__"))) (C_t_steps : PySem.W.mroIn K C_steps (.type "object") = some true)
    {f_stepsOfDeed : Addr} {od_stepsOfDeed an_stepsOfDeed : Option Addr} {sl_stepsOfDeed : Array (Option Value)} {oc_stepsOfDeed kV_stepsOfDeed dc_stepsOfDeed pm_stepsOfDeed cd_stepsOfDeed ct_stepsOfDeed : Value}
    (M_a_stepsOfDeed : PySem.W.findIn K (.ref C_steps) "of_deed" = some (some (.ref f_stepsOfDeed))) (M_f_stepsOfDeed : PySem.W.isFn K (.ref f_stepsOfDeed) = true) (M_l_stepsOfDeed : K.lookup f_stepsOfDeed = some ⟨oc_stepsOfDeed, od_stepsOfDeed, .func (PySem.W.fnOf "of_deed" "Steps.of_deed" (defArgs s_stepsOfDeed) (defBody s_stepsOfDeed) (defScope s_stepsOfDeed) .none kV_stepsOfDeed dc_stepsOfDeed pm_stepsOfDeed an_stepsOfDeed cd_stepsOfDeed ct_stepsOfDeed), sl_stepsOfDeed⟩) (M_c_stepsOfDeed : PySem.W.codeIn K cd_stepsOfDeed "Steps.of_deed" = true) (M_k_stepsOfDeed : PySem.W.keepIn K (.ref f_stepsOfDeed) = true)
    {f_stepsOfRow : Addr} {od_stepsOfRow an_stepsOfRow : Option Addr} {sl_stepsOfRow : Array (Option Value)} {oc_stepsOfRow kV_stepsOfRow dc_stepsOfRow pm_stepsOfRow cd_stepsOfRow ct_stepsOfRow : Value}
    (M_a_stepsOfRow : PySem.W.findIn K (.ref C_steps) "of_row" = some (some (.ref f_stepsOfRow))) (M_f_stepsOfRow : PySem.W.isFn K (.ref f_stepsOfRow) = true) (M_l_stepsOfRow : K.lookup f_stepsOfRow = some ⟨oc_stepsOfRow, od_stepsOfRow, .func (PySem.W.fnOf "of_row" "Steps.of_row" (defArgs s_stepsOfRow) (defBody s_stepsOfRow) (defScope s_stepsOfRow) .none kV_stepsOfRow dc_stepsOfRow pm_stepsOfRow an_stepsOfRow cd_stepsOfRow ct_stepsOfRow), sl_stepsOfRow⟩) (M_c_stepsOfRow : PySem.W.codeIn K cd_stepsOfRow "Steps.of_row" = true) (M_k_stepsOfRow : PySem.W.keepIn K (.ref f_stepsOfRow) = true)
    {f_stepsOfBack : Addr} {od_stepsOfBack an_stepsOfBack : Option Addr} {sl_stepsOfBack : Array (Option Value)} {oc_stepsOfBack kV_stepsOfBack dc_stepsOfBack pm_stepsOfBack cd_stepsOfBack ct_stepsOfBack : Value}
    (M_a_stepsOfBack : PySem.W.findIn K (.ref C_steps) "of_back" = some (some (.ref f_stepsOfBack))) (M_f_stepsOfBack : PySem.W.isFn K (.ref f_stepsOfBack) = true) (M_l_stepsOfBack : K.lookup f_stepsOfBack = some ⟨oc_stepsOfBack, od_stepsOfBack, .func (PySem.W.fnOf "of_back" "Steps.of_back" (defArgs s_stepsOfBack) (defBody s_stepsOfBack) (defScope s_stepsOfBack) .none kV_stepsOfBack dc_stepsOfBack pm_stepsOfBack an_stepsOfBack cd_stepsOfBack ct_stepsOfBack), sl_stepsOfBack⟩) (M_c_stepsOfBack : PySem.W.codeIn K cd_stepsOfBack "Steps.of_back" = true) (M_k_stepsOfBack : PySem.W.keepIn K (.ref f_stepsOfBack) = true)
    {f_stepsOfTimes : Addr} {od_stepsOfTimes an_stepsOfTimes : Option Addr} {sl_stepsOfTimes : Array (Option Value)} {oc_stepsOfTimes kV_stepsOfTimes dc_stepsOfTimes pm_stepsOfTimes cd_stepsOfTimes ct_stepsOfTimes : Value}
    (M_a_stepsOfTimes : PySem.W.findIn K (.ref C_steps) "of_times" = some (some (.ref f_stepsOfTimes))) (M_f_stepsOfTimes : PySem.W.isFn K (.ref f_stepsOfTimes) = true) (M_l_stepsOfTimes : K.lookup f_stepsOfTimes = some ⟨oc_stepsOfTimes, od_stepsOfTimes, .func (PySem.W.fnOf "of_times" "Steps.of_times" (defArgs s_stepsOfTimes) (defBody s_stepsOfTimes) (defScope s_stepsOfTimes) .none kV_stepsOfTimes dc_stepsOfTimes pm_stepsOfTimes an_stepsOfTimes cd_stepsOfTimes ct_stepsOfTimes), sl_stepsOfTimes⟩) (M_c_stepsOfTimes : PySem.W.codeIn K cd_stepsOfTimes "Steps.of_times" = true) (M_k_stepsOfTimes : PySem.W.keepIn K (.ref f_stepsOfTimes) = true)
    (z_ValueError : PySem.W.nsIn K mainGlobals "ValueError" = some none)
    (z_abs : PySem.W.nsIn K mainGlobals "abs" = some none)
    (z_enumerate : PySem.W.nsIn K mainGlobals "enumerate" = some none)
    (z_int : PySem.W.nsIn K mainGlobals "int" = some none)
    (z_len : PySem.W.nsIn K mainGlobals "len" = some none)
    (z_list : PySem.W.nsIn K mainGlobals "list" = some none)
    (z_max : PySem.W.nsIn K mainGlobals "max" = some none)
    (z_min : PySem.W.nsIn K mainGlobals "min" = some none)
    (z_range : PySem.W.nsIn K mainGlobals "range" = some none)
    (z_repr : PySem.W.nsIn K mainGlobals "repr" = some none)
    (z_reversed : PySem.W.nsIn K mainGlobals "reversed" = some none)
    (z_sum : PySem.W.nsIn K mainGlobals "sum" = some none)
    (z_tuple : PySem.W.nsIn K mainGlobals "tuple" = some none)
    (z_zip : PySem.W.nsIn K mainGlobals "zip" = some none)
    : ∃ fd : FuncData, (∀ (s : Shared) (v : Value), BindsTo s fd ⟨[v], []⟩ [("script", v)]) ∧ ∀ base : Heap, K.In base → base.Ns mainGlobals mg → (∀ p ∈ ([("tally_up_to", tc, Pt)] : List (Str × Addr × Addr)).map (·.2), LamX.TabB base mg p.1 p.2) → FnG l.prog w K mg base CX0 12 fa fd ["script"] (Spec K (S_lawT K [(Pt, lamQ)])) := by
  have e := hfa.symm.trans (PySem.W.mg_of X G a24)
  cases e
  let T : Txt K mg := {
    done := ⟨f0, _, fun_mk (st := s_done) l0 c0 k0, PySem.W.mg_of X G a0⟩
    undone := ⟨f1, _, fun_mk (st := s_undone) l1 c1 k1, PySem.W.mg_of X G a1⟩
    changed := ⟨f2, _, fun_mk (st := s_changed) l2 c2 k2, PySem.W.mg_of X G a2⟩
    withWord := ⟨f3, _, fun_mk (st := s_withWord) l3 c3 k3, PySem.W.mg_of X G a3⟩
    folded := ⟨f4, _, fun_mk (st := s_folded) l4 c4 k4, PySem.W.mg_of X G a4⟩
    usedPlaces := ⟨f5, _, fun_mk (st := s_usedPlaces) l5 c5 k5, PySem.W.mg_of X G a5⟩
    partsIn := ⟨f6, _, fun_mk (st := s_partsIn) l6 c6 k6, PySem.W.mg_of X G a6⟩
    ofTerm := ⟨f7, _, fun_mk (st := s_ofTerm) l7 c7 k7, PySem.W.mg_of X G a7⟩
    isIdle := ⟨f8, _, fun_mk (st := s_isIdle) l8 c8 k8, PySem.W.mg_of X G a8⟩
    tallyUpTo := ⟨f9, _, fun_mk (st := s_tallyUpTo) l9 c9 k9, PySem.W.mg_of X G a9⟩
    run := ⟨f10, _, fun_mk (st := s_run) l10 c10 k10, PySem.W.mg_of X G a10⟩
    lawDeck := ⟨f11, _, fun_mk (st := s_lawDeck) l11 c11 k11, PySem.W.mg_of X G a11⟩
    lawDraw := ⟨f12, _, fun_mk (st := s_lawDraw) l12 c12 k12, PySem.W.mg_of X G a12⟩
    lawPick := ⟨f13, _, fun_mk (st := s_lawPick) l13 c13 k13, PySem.W.mg_of X G a13⟩
    lawMixed := ⟨f14, _, fun_mk (st := s_lawMixed) l14 c14 k14, PySem.W.mg_of X G a14⟩
    lawWord := ⟨f15, _, fun_mk (st := s_lawWord) l15 c15 k15, PySem.W.mg_of X G a15⟩
    lawState := ⟨f16, _, fun_mk (st := s_lawState) l16 c16 k16, PySem.W.mg_of X G a16⟩
    lawDeed := ⟨f17, _, fun_mk (st := s_lawDeed) l17 c17 k17, PySem.W.mg_of X G a17⟩
    lawFlat := ⟨f18, _, fun_mk (st := s_lawFlat) l18 c18 k18, PySem.W.mg_of X G a18⟩
    lawTerm := ⟨f19, _, fun_mk (st := s_lawTerm) l19 c19 k19, PySem.W.mg_of X G a19⟩
    lawProgram := ⟨f20, _, fun_mk (st := s_lawProgram) l20 c20 k20, PySem.W.mg_of X G a20⟩
    lawShared := ⟨f21, _, fun_mk (st := s_lawShared) l21 c21 k21, PySem.W.mg_of X G a21⟩
    lawNear := ⟨f22, _, fun_mk (st := s_lawNear) l22 c22 k22, PySem.W.mg_of X G a22⟩
    lawColumn := ⟨f23, _, fun_mk (st := s_lawColumn) l23 c23 k23, PySem.W.mg_of X G a23⟩
    law := ⟨fa, _, fun_mk (st := s_law) l24 c24 k24, PySem.W.mg_of X G a24⟩
    c_tally := ⟨C_tally, PySem.W.mg_of X G C_a_tally, ⟨C_g_tally, C_d_tally, C_o_tally, C_s_tally⟩⟩
    tallyInit := ⟨f_tallyInit, _, fun_mk (st := s_tallyInit) M_l_tallyInit M_c_tallyInit M_k_tallyInit, ⟨C_m_tally, M_a_tallyInit, M_f_tallyInit, C_k_tally⟩⟩
    tallyOfDeed := ⟨f_tallyOfDeed, _, fun_mk (st := s_tallyOfDeed) M_l_tallyOfDeed M_c_tallyOfDeed M_k_tallyOfDeed, ⟨M_a_tallyOfDeed, M_f_tallyOfDeed, M_k_tallyOfDeed⟩⟩
    tallyOfRow := ⟨f_tallyOfRow, _, fun_mk (st := s_tallyOfRow) M_l_tallyOfRow M_c_tallyOfRow M_k_tallyOfRow, ⟨M_a_tallyOfRow, M_f_tallyOfRow, M_k_tallyOfRow⟩⟩
    tallyOfBack := ⟨f_tallyOfBack, _, fun_mk (st := s_tallyOfBack) M_l_tallyOfBack M_c_tallyOfBack M_k_tallyOfBack, ⟨M_a_tallyOfBack, M_f_tallyOfBack, M_k_tallyOfBack⟩⟩
    tallyOfTimes := ⟨f_tallyOfTimes, _, fun_mk (st := s_tallyOfTimes) M_l_tallyOfTimes M_c_tallyOfTimes M_k_tallyOfTimes, ⟨M_a_tallyOfTimes, M_f_tallyOfTimes, M_k_tallyOfTimes⟩⟩
    na_tally_kinds := N_tally_kinds
    na_tally_kept := N_tally_kept
    c_steps := ⟨C_steps, PySem.W.mg_of X G C_a_steps, ⟨C_g_steps, C_d_steps, C_o_steps, C_s_steps⟩⟩
    c0_steps := ⟨C_m_steps, C_i_steps, C_t_steps, C_k_steps⟩
    stepsOfDeed := ⟨f_stepsOfDeed, _, fun_mk (st := s_stepsOfDeed) M_l_stepsOfDeed M_c_stepsOfDeed M_k_stepsOfDeed, ⟨M_a_stepsOfDeed, M_f_stepsOfDeed, M_k_stepsOfDeed⟩⟩
    stepsOfRow := ⟨f_stepsOfRow, _, fun_mk (st := s_stepsOfRow) M_l_stepsOfRow M_c_stepsOfRow M_k_stepsOfRow, ⟨M_a_stepsOfRow, M_f_stepsOfRow, M_k_stepsOfRow⟩⟩
    stepsOfBack := ⟨f_stepsOfBack, _, fun_mk (st := s_stepsOfBack) M_l_stepsOfBack M_c_stepsOfBack M_k_stepsOfBack, ⟨M_a_stepsOfBack, M_f_stepsOfBack, M_k_stepsOfBack⟩⟩
    stepsOfTimes := ⟨f_stepsOfTimes, _, fun_mk (st := s_stepsOfTimes) M_l_stepsOfTimes M_c_stepsOfTimes M_k_stepsOfTimes, ⟨M_a_stepsOfTimes, M_f_stepsOfTimes, M_k_stepsOfTimes⟩⟩
    n_ValueError := PySem.W.mg_none_of X G z_ValueError
    n_abs := PySem.W.mg_none_of X G z_abs
    n_enumerate := PySem.W.mg_none_of X G z_enumerate
    n_int := PySem.W.mg_none_of X G z_int
    n_len := PySem.W.mg_none_of X G z_len
    n_list := PySem.W.mg_none_of X G z_list
    n_max := PySem.W.mg_none_of X G z_max
    n_min := PySem.W.mg_none_of X G z_min
    n_range := PySem.W.mg_none_of X G z_range
    n_repr := PySem.W.mg_none_of X G z_repr
    n_reversed := PySem.W.mg_none_of X G z_reversed
    n_sum := PySem.W.mg_none_of X G z_sum
    n_tuple := PySem.W.mg_none_of X G z_tuple
    n_zip := PySem.W.mg_none_of X G z_zip
  }
  exact ⟨_, fun s v => .of_eq rfl, fun base _ _ htb => ok_law T (TL := [(Pt, lamQ)]) ⟨⟨tc, Pt, ⟨oc9, od9, kV9, dc9, pm9, an9, ct9, sl9, rfl, l9, c9⟩, htb (tc, Pt) (by simp), by simp, by simp⟩, KD, MS⟩⟩
end K08
open PySem PySem.W PyProof.Rows
set_option maxHeartbeats 0 in
theorem PySem.Challenge.cw_homewords_k08_whole_states_alike_below_l_holds : PySem.Challenge.rw_homewords_k08_whole_states_alike_below_l.Holds := by
  w_on; o_law; k_head; (case hw => w_witness2)
  k_fill
  refine' HW.walk_one (l := PySem.Challenge.rw_homewords_k08_whole_states_alike_below_l) (n := 63) (k := 12) "tally_up_to" K08.lamQ rfl (by decide) rfl ⟨rfl, by decide, by decide⟩ (fun w h Y => PySem.W.km_in_of Y) ?hx ?F
  case hx =>
    intro w
    refine' HW.tabsIn_one ?h1 ?h2 ?h3 ?h4 ?h5 ?h6 ?h7
    (case h2 => k_is); (case h3 => k_is); (case h4 => rfl); (case h5 => k_is); (case h6 => rfl); (case h1 => kernel_rfl); (case h7 => kernel_rfl)
  case F =>
    intro w mg fa h KX G hmg
    refine' K08.all_mk KX G hmg (HW.gl_kinds (PySem.W.mg_of KX G ?n1) ?n2) (HW.gl_steps (PySem.W.mg_of KX G ?n3)) ?a0 ?l0 ?c0 ?k0 ?a1 ?l1 ?c1 ?k1 ?a2 ?l2 ?c2 ?k2 ?a3 ?l3 ?c3 ?k3 ?a4 ?l4 ?c4 ?k4 ?a5 ?l5 ?c5 ?k5 ?a6 ?l6 ?c6 ?k6 ?a7 ?l7 ?c7 ?k7 ?a8 ?l8 ?c8 ?k8 ?a9 ?l9 ?c9 ?k9 ?a10 ?l10 ?c10 ?k10 ?a11 ?l11 ?c11 ?k11 ?a12 ?l12 ?c12 ?k12 ?a13 ?l13 ?c13 ?k13 ?a14 ?l14 ?c14 ?k14 ?a15 ?l15 ?c15 ?k15 ?a16 ?l16 ?c16 ?k16 ?a17 ?l17 ?c17 ?k17 ?a18 ?l18 ?c18 ?k18 ?a19 ?l19 ?c19 ?k19 ?a20 ?l20 ?c20 ?k20 ?a21 ?l21 ?c21 ?k21 ?a22 ?l22 ?c22 ?k22 ?a23 ?l23 ?c23 ?k23 ?a24 ?l24 ?c24 ?k24 ?C_a_tally ?C_g_tally ?C_d_tally ?C_o_tally ?C_s_tally ?C_m_tally ?C_k_tally ?M_a_tallyInit ?M_f_tallyInit ?M_l_tallyInit ?M_c_tallyInit ?M_k_tallyInit ?M_a_tallyOfDeed ?M_f_tallyOfDeed ?M_l_tallyOfDeed ?M_c_tallyOfDeed ?M_k_tallyOfDeed ?M_a_tallyOfRow ?M_f_tallyOfRow ?M_l_tallyOfRow ?M_c_tallyOfRow ?M_k_tallyOfRow ?M_a_tallyOfBack ?M_f_tallyOfBack ?M_l_tallyOfBack ?M_c_tallyOfBack ?M_k_tallyOfBack ?M_a_tallyOfTimes ?M_f_tallyOfTimes ?M_l_tallyOfTimes ?M_c_tallyOfTimes ?M_k_tallyOfTimes ?N_tally_kinds ?N_tally_kept ?C_a_steps ?C_g_steps ?C_d_steps ?C_o_steps ?C_s_steps ?C_m_steps ?C_k_steps ?C_i_steps ?C_t_steps ?M_a_stepsOfDeed ?M_f_stepsOfDeed ?M_l_stepsOfDeed ?M_c_stepsOfDeed ?M_k_stepsOfDeed ?M_a_stepsOfRow ?M_f_stepsOfRow ?M_l_stepsOfRow ?M_c_stepsOfRow ?M_k_stepsOfRow ?M_a_stepsOfBack ?M_f_stepsOfBack ?M_l_stepsOfBack ?M_c_stepsOfBack ?M_k_stepsOfBack ?M_a_stepsOfTimes ?M_f_stepsOfTimes ?M_l_stepsOfTimes ?M_c_stepsOfTimes ?M_k_stepsOfTimes ?z_ValueError ?z_abs ?z_enumerate ?z_int ?z_len ?z_list ?z_max ?z_min ?z_range ?z_repr ?z_reversed ?z_sum ?z_tuple ?z_zip
    (case n1 => k_is); (case n2 => k_is); (case n3 => k_is)
    (case a0 => k_is); (case l0 => k_is); (case c0 => k_is); (case k0 => k_is); (case a1 => k_is); (case l1 => k_is); (case c1 => k_is); (case k1 => k_is); (case a2 => k_is); (case l2 => k_is); (case c2 => k_is); (case k2 => k_is); (case a3 => k_is); (case l3 => k_is); (case c3 => k_is); (case k3 => k_is); (case a4 => k_is); (case l4 => k_is); (case c4 => k_is); (case k4 => k_is); (case a5 => k_is); (case l5 => k_is); (case c5 => k_is); (case k5 => k_is); (case a6 => k_is); (case l6 => k_is); (case c6 => k_is); (case k6 => k_is); (case a7 => k_is); (case l7 => k_is); (case c7 => k_is); (case k7 => k_is); (case a8 => k_is); (case l8 => k_is); (case c8 => k_is); (case k8 => k_is); (case a9 => k_is); (case l9 => k_is); (case c9 => k_is); (case k9 => k_is); (case a10 => k_is); (case l10 => k_is); (case c10 => k_is); (case k10 => k_is); (case a11 => k_is); (case l11 => k_is); (case c11 => k_is); (case k11 => k_is); (case a12 => k_is); (case l12 => k_is); (case c12 => k_is); (case k12 => k_is); (case a13 => k_is); (case l13 => k_is); (case c13 => k_is); (case k13 => k_is); (case a14 => k_is); (case l14 => k_is); (case c14 => k_is); (case k14 => k_is); (case a15 => k_is); (case l15 => k_is); (case c15 => k_is); (case k15 => k_is); (case a16 => k_is); (case l16 => k_is); (case c16 => k_is); (case k16 => k_is); (case a17 => k_is); (case l17 => k_is); (case c17 => k_is); (case k17 => k_is); (case a18 => k_is); (case l18 => k_is); (case c18 => k_is); (case k18 => k_is); (case a19 => k_is); (case l19 => k_is); (case c19 => k_is); (case k19 => k_is); (case a20 => k_is); (case l20 => k_is); (case c20 => k_is); (case k20 => k_is); (case a21 => k_is); (case l21 => k_is); (case c21 => k_is); (case k21 => k_is); (case a22 => k_is); (case l22 => k_is); (case c22 => k_is); (case k22 => k_is); (case a23 => k_is); (case l23 => k_is); (case c23 => k_is); (case k23 => k_is); (case a24 => k_is); (case l24 => k_is); (case c24 => k_is); (case k24 => k_is); (case C_a_tally => k_is); (case C_g_tally => k_is); (case C_d_tally => k_is); (case C_o_tally => k_is); (case C_s_tally => k_is); (case C_m_tally => k_is); (case C_k_tally => k_is); (case M_a_tallyInit => k_is); (case M_f_tallyInit => k_is); (case M_l_tallyInit => k_is); (case M_c_tallyInit => k_is); (case M_k_tallyInit => k_is); (case M_a_tallyOfDeed => k_is); (case M_f_tallyOfDeed => k_is); (case M_l_tallyOfDeed => k_is); (case M_c_tallyOfDeed => k_is); (case M_k_tallyOfDeed => k_is); (case M_a_tallyOfRow => k_is); (case M_f_tallyOfRow => k_is); (case M_l_tallyOfRow => k_is); (case M_c_tallyOfRow => k_is); (case M_k_tallyOfRow => k_is); (case M_a_tallyOfBack => k_is); (case M_f_tallyOfBack => k_is); (case M_l_tallyOfBack => k_is); (case M_c_tallyOfBack => k_is); (case M_k_tallyOfBack => k_is); (case M_a_tallyOfTimes => k_is); (case M_f_tallyOfTimes => k_is); (case M_l_tallyOfTimes => k_is); (case M_c_tallyOfTimes => k_is); (case M_k_tallyOfTimes => k_is); (case N_tally_kinds => k_is); (case N_tally_kept => k_is); (case C_a_steps => k_is); (case C_g_steps => k_is); (case C_d_steps => k_is); (case C_o_steps => k_is); (case C_s_steps => k_is); (case C_m_steps => k_is); (case C_k_steps => k_is); (case C_i_steps => k_is); (case C_t_steps => k_is); (case M_a_stepsOfDeed => k_is); (case M_f_stepsOfDeed => k_is); (case M_l_stepsOfDeed => k_is); (case M_c_stepsOfDeed => k_is); (case M_k_stepsOfDeed => k_is); (case M_a_stepsOfRow => k_is); (case M_f_stepsOfRow => k_is); (case M_l_stepsOfRow => k_is); (case M_c_stepsOfRow => k_is); (case M_k_stepsOfRow => k_is); (case M_a_stepsOfBack => k_is); (case M_f_stepsOfBack => k_is); (case M_l_stepsOfBack => k_is); (case M_c_stepsOfBack => k_is); (case M_k_stepsOfBack => k_is); (case M_a_stepsOfTimes => k_is); (case M_f_stepsOfTimes => k_is); (case M_l_stepsOfTimes => k_is); (case M_c_stepsOfTimes => k_is); (case M_k_stepsOfTimes => k_is); (case z_ValueError => k_is); (case z_abs => k_is); (case z_enumerate => k_is); (case z_int => k_is); (case z_len => k_is); (case z_list => k_is); (case z_max => k_is); (case z_min => k_is); (case z_range => k_is); (case z_repr => k_is); (case z_reversed => k_is); (case z_sum => k_is); (case z_tuple => k_is); (case z_zip => k_is)
